/-
  Texts laid together: Dy5, Dy6, Dy7, Dy8.
-/
import Derived.Test.YtgbccbmflokooaaGreatDoorDa
/-
  Contracts of dyad.Check, dyad.wrong.
-/
namespace Go.Proofs.YtgbccbmflokooaaGreatDoor
open Go.RowKit

/-- What is wrong with a dyad. -/
def dchk (xs : List Nat) (e : Int) : Int := if chk xs = 0 then (if e < -20000 ∨ 20000 < e then 3 else 0) else chk xs

set_option maxRecDepth 100000 in
theorem dcheck_any (s : Bool) (ao : Option Addr) (ca : Nat) (xs : List Nat) (e : Int) (w : World) (hr : Rd w .u32 (.slice ao xs.length ca) xs) :
    Calls Tryz.prog 104 #[.agg #[.bool s, .slice ao xs.length ca, .int .i64 e]] w fun z w' => z = .returned (.int .i64 (dchk xs e)) ∧ Below w.heap.size w w' := by
  have bA := below_alloc w (.cells #[.bool s, .slice ao xs.length ca, .int .i64 e] 95)
  have hk := check_any _ xs _ (hr.later bA)
  unfold dchk
  obtain ⟨c, hc⟩ : ∃ c, chk xs = c := ⟨_, rfl⟩
  rw [hc] at hk ⊢
  clear hc hr
  by_cases h : c = 0
  · subst h
    rw [if_pos rfl]
    by_cases h1 : e < -20000
    · rw [if_pos (Or.inl h1)]
      go_enter Tryz.func104, Tryz.ntmps104
      go_wp2_with fail
      refine hk.mono ?_
      rintro z w' ⟨rfl, rfl⟩
      clear hk
      go_wp2
      go_ret
      exact ⟨rfl, bA⟩
    · by_cases h2 : 20000 < e
      · rw [if_pos (Or.inr h2)]
        go_enter Tryz.func104, Tryz.ntmps104
        go_wp2_with fail
        refine hk.mono ?_
        rintro z w' ⟨rfl, rfl⟩
        clear hk
        go_wp2
        go_ret
        exact ⟨rfl, bA⟩
      · rw [if_neg (by omega)]
        go_enter Tryz.func104, Tryz.ntmps104
        go_wp2_with fail
        refine hk.mono ?_
        rintro z w' ⟨rfl, rfl⟩
        clear hk
        go_wp2
        go_ret
        exact ⟨rfl, bA⟩
  · rw [if_neg h]
    go_enter Tryz.func104, Tryz.ntmps104
    go_wp2_with fail
    refine hk.mono ?_
    rintro z w' ⟨rfl, rfl⟩
    clear hk
    go_wp2
    go_ret
    exact ⟨rfl, bA⟩

def dchk2 (xs : List Nat) (e : Int) (ys : List Nat) (f : Int) : Int := if dchk xs e = 0 then dchk ys f else dchk xs e

end Go.Proofs.YtgbccbmflokooaaGreatDoor
/-
  Contracts of dyad.both, dyad.Add.
-/
namespace Go.Proofs.YtgbccbmflokooaaGreatDoor
open Go.RowKit

theorem tz_fits (n L : Nat) (h : (Dg.dg 4294967296 n).length ≤ L) : tz n ≤ 32 * L := by
  by_cases h0 : n = 0
  · subst h0; exact Nat.zero_le _
  · obtain ⟨m, hm⟩ := tz_spec h0
    have h1 := Dg.vl_lt 4294967296 (Dg.dg 4294967296 n) (Dg.small_dg _ _ (by omega))
    rw [Dg.vl_dg _ _ (by omega)] at h1
    have h2 : 4294967296 ^ (Dg.dg 4294967296 n).length ≤ 4294967296 ^ L := Nat.pow_le_pow_right (by omega) h
    have h3 : (4294967296 : Nat) ^ L = 2 ^ (32 * L) := by rw [Nat.pow_mul]
    have h4 : 2 ^ tz n * 1 ≤ 2 ^ tz n * (2 * m + 1) := Nat.mul_le_mul_left _ (by omega)
    rw [← hm, Nat.mul_one] at h4
    have h5 : 2 ^ tz n < 2 ^ (32 * L) := by rw [← h3]; omega
    exact Nat.le_of_lt ((Nat.pow_lt_pow_iff_right (by omega)).1 h5)

/-- What a call answers that is handed two dyads. -/
def dbothR (c : Int) (t : Trip) : Trip × Int := if c = 0 then shortT t else (⟨false, 0, 0⟩, c)

theorem dchk_zero {xs : List Nat} {e : Int} (h : dchk xs e = 0) : chk xs = 0 ∧ -20000 ≤ e ∧ e ≤ 20000 := by
  unfold dchk at h
  by_cases h1 : chk xs = 0
  · rw [if_pos h1] at h
    by_cases h2 : e < -20000 ∨ 20000 < e
    · rw [if_pos h2] at h; omega
    · exact ⟨h1, by omega, by omega⟩
  · rw [if_neg h1] at h; exact absurd h h1

theorem dchk2_zero {xs ys : List Nat} {e f : Int} (h : dchk2 xs e ys f = 0) : dchk xs e = 0 ∧ dchk ys f = 0 := by
  unfold dchk2 at h
  by_cases h1 : dchk xs e = 0
  · rw [if_pos h1] at h; exact ⟨h1, h⟩
  · rw [if_neg h1] at h; exact absurd h h1

theorem locals3 (w : World) (a0 a1 a2 b0 b1 b2 c0 c1 c2 : Value) (ta tb tc : TypeId) :
    Loc (((w.alloc (.cells #[a0, a1, a2] ta)).alloc (.cells #[b0, b1, b2] tb)).alloc (.cells #[c0, c1, c2] tc)) w.heap.size a0 a1 a2 ∧
    Loc (((w.alloc (.cells #[a0, a1, a2] ta)).alloc (.cells #[b0, b1, b2] tb)).alloc (.cells #[c0, c1, c2] tc)) (w.heap.size + 1) b0 b1 b2 ∧
    Loc (((w.alloc (.cells #[a0, a1, a2] ta)).alloc (.cells #[b0, b1, b2] tb)).alloc (.cells #[c0, c1, c2] tc)) (w.heap.size + 1 + 1) c0 c1 c2 ∧
    Below w.heap.size w (((w.alloc (.cells #[a0, a1, a2] ta)).alloc (.cells #[b0, b1, b2] tb)).alloc (.cells #[c0, c1, c2] tc)) ∧
    (((w.alloc (.cells #[a0, a1, a2] ta)).alloc (.cells #[b0, b1, b2] tb)).alloc (.cells #[c0, c1, c2] tc)).heap.size = w.heap.size + 1 + 1 + 1 := by
  have la := loc_new w a0 a1 a2 ta
  have lb := loc_new (w.alloc (.cells #[a0, a1, a2] ta)) b0 b1 b2 tb
  have lc := loc_new ((w.alloc (.cells #[a0, a1, a2] ta)).alloc (.cells #[b0, b1, b2] tb)) c0 c1 c2 tc
  have bB := below_alloc (w.alloc (.cells #[a0, a1, a2] ta)) (.cells #[b0, b1, b2] tb)
  have bC := below_alloc ((w.alloc (.cells #[a0, a1, a2] ta)).alloc (.cells #[b0, b1, b2] tb)) (.cells #[c0, c1, c2] tc)
  refine ⟨(la.later bB).later bC, ?_, ?_, below_trans (below_trans (below_alloc w _) bB) bC, by simp [World.size_alloc]⟩
  · have := lb.later bC
    rwa [World.size_alloc] at this
  · rwa [World.size_alloc, World.size_alloc] at lc

end Go.Proofs.YtgbccbmflokooaaGreatDoor
/-
  Contracts of long.Times, dyad.Add, dyad.Mul.
-/
namespace Go.Proofs.YtgbccbmflokooaaGreatDoor
open Go.RowKit

theorem add_len (x y L : Nat) (hx : (Dg.dg 4294967296 x).length ≤ L) (hy : (Dg.dg 4294967296 y).length ≤ L) : (Dg.dg 4294967296 (x + y)).length ≤ L + 1 := by
  apply Dg.dg_len_le 4294967296 _ _ (by omega)
  have h1 := Dg.vl_lt 4294967296 (Dg.dg 4294967296 x) (Dg.small_dg _ _ (by omega))
  have h2 := Dg.vl_lt 4294967296 (Dg.dg 4294967296 y) (Dg.small_dg _ _ (by omega))
  rw [Dg.vl_dg _ _ (by omega)] at h1 h2
  have h3 : 4294967296 ^ (Dg.dg 4294967296 x).length ≤ 4294967296 ^ L := Nat.pow_le_pow_right (by omega) hx
  have h4 : 4294967296 ^ (Dg.dg 4294967296 y).length ≤ 4294967296 ^ L := Nat.pow_le_pow_right (by omega) hy
  rw [Nat.pow_succ]
  omega

theorem mul_len (x y L M : Nat) (hx : (Dg.dg 4294967296 x).length ≤ L) (hy : (Dg.dg 4294967296 y).length ≤ M) : (Dg.dg 4294967296 (x * y)).length ≤ L + M := by
  apply Dg.dg_len_le 4294967296 _ _ (by omega)
  have h1 := Dg.vl_lt 4294967296 (Dg.dg 4294967296 x) (Dg.small_dg _ _ (by omega))
  have h2 := Dg.vl_lt 4294967296 (Dg.dg 4294967296 y) (Dg.small_dg _ _ (by omega))
  rw [Dg.vl_dg _ _ (by omega)] at h1 h2
  have h3 : 4294967296 ^ (Dg.dg 4294967296 x).length ≤ 4294967296 ^ L := Nat.pow_le_pow_right (by omega) hx
  have h4 : 4294967296 ^ (Dg.dg 4294967296 y).length ≤ 4294967296 ^ M := Nat.pow_le_pow_right (by omega) hy
  rw [Nat.pow_add]
  exact Nat.mul_lt_mul'' (by omega) (by omega)

theorem plusT_len (a b : Trip) (L j : Nat) (ha : (Dg.dg 4294967296 a.n).length ≤ L) (hb : (Dg.dg 4294967296 b.n).length ≤ L) (h1 : (a.e - min a.e b.e).toNat ≤ 32 * j) (h2 : (b.e - min a.e b.e).toNat ≤ 32 * j) :
    (Dg.dg 4294967296 (plusT a b).n).length ≤ L + j + 1 := by
  have lx := up_len a.n _ L j ha h1
  have ly := up_len b.n _ L j hb h2
  unfold plusT
  simp only
  by_cases hs : a.s = b.s
  · rw [if_pos hs]; exact add_len _ _ _ lx ly
  · rw [if_neg hs]
    by_cases hl : a.n * 2 ^ (a.e - min a.e b.e).toNat < b.n * 2 ^ (b.e - min a.e b.e).toNat
    · rw [if_pos hl]
      exact Nat.le_trans (dg_len_mono _ _ _ (by omega) (Nat.sub_le _ _)) (Nat.le_trans ly (by omega))
    · rw [if_neg hl]
      exact Nat.le_trans (dg_len_mono _ _ _ (by omega) (Nat.sub_le _ _)) (Nat.le_trans lx (by omega))

theorem plusT_e (a b : Trip) : (plusT a b).e = min a.e b.e := by
  unfold plusT
  simp only
  by_cases hs : a.s = b.s
  · rw [if_pos hs]
  · rw [if_neg hs]
    by_cases hl : a.n * 2 ^ (a.e - min a.e b.e).toNat < b.n * 2 ^ (b.e - min a.e b.e).toNat
    · rw [if_pos hl]
    · rw [if_neg hl]

theorem dv_of {w : World} {s : Bool} {ao : Option Addr} {ca : Nat} {xs : List Nat} {e : Int} (hr : Rd w .u32 (.slice ao xs.length ca) xs) (sa : Dg.Small 4294967296 xs) (hn : Dg.Norm xs) :
    Dv w (.agg #[.bool s, .slice ao xs.length ca, .int .i64 e]) ⟨s, Dg.vl 4294967296 xs, e⟩ := by
  have h := Dg.eq_dg 4294967296 (by omega) xs _ sa hn rfl
  refine ⟨_, rfl, ?_⟩
  simp only
  rw [← h]
  exact hr

end Go.Proofs.YtgbccbmflokooaaGreatDoor
/-
  Contracts of the reference's SameDyad, CheckDyad, TwoDyads; dyadBegun; the law DyadChecks.
-/
namespace Go.Proofs.YtgbccbmflokooaaGreatDoor
open Go.RowKit

theorem dbegun_value : dbothR (dchk2 [1] 0 [3] 0) (plusT ⟨false, Dg.vl 4294967296 [1], 0⟩ ⟨false, Dg.vl 4294967296 [3], 0⟩) = (⟨false, 1, 2⟩, 0) := by
  have e1 : dchk2 [1] 0 [3] 0 = 0 := by decide
  have e2 : plusT ⟨false, Dg.vl 4294967296 [1], 0⟩ ⟨false, Dg.vl 4294967296 [3], 0⟩ = ⟨false, 4, 0⟩ := rfl
  have e3 : bare ⟨false, 4, 0⟩ = ⟨false, 1, 2⟩ := rfl
  rw [e1, e2]
  unfold dbothR shortT
  rw [e3, if_pos rfl, if_neg (by decide), if_neg (by decide)]

end Go.Proofs.YtgbccbmflokooaaGreatDoor

/-
  Texts laid together: Eg2, Co23.
-/
import Derived.Test.YtiiphandhpilgaaGreatDoorEa24
import Derived.Test.YtiiphandhpilgaaGreatDoorEa42
import Derived.Test.YtiiphandhpilgaaGreatDoorEa48
import Derived.Test.YtiiphandhpilgaaGreatDoorEa35
namespace Go.Proofs.YtiiphandhpilgaaGreatDoor
open Go.RowKit
set_option maxHeartbeats 1600000 in
/-- InGrid of what lies below the grid. -/
theorem inGrid_low (R D L G : Int) (gr : Bool) (v : Value) (t : Trip) (w : World) (hg : gridC R D L G = 0) (hv : Rv w v t) (hl : (Dg.dg 65536 t.n).length ≤ 20000) (e1 : -200000 ≤ t.e) (e2 : t.e < -79000) (h0 : t.n ≠ 0) :
    Calls Tryz.prog 14 #[v, .agg #[.int .i64 R, .int .i64 D, .int .i64 L, .int .i64 G, .bool gr]] w fun z w' => z = .returned (.bool (inR R D L G gr t.n t.e)) ∧ Below w.heap.size w w' := by
  obtain ⟨s, n, e⟩ := t
  simp only at hl e1 e2 h0
  obtain ⟨s0, rfl, hr⟩ := hv
  obtain ⟨ao, ca, rfl⟩ := hr.shape
  simp only at hr ⊢
  obtain ⟨hR, d1, d2, l1, l2, g1, g2, lg, l16⟩ := gridC_zero hg
  have hbl : bitLen n ≤ 16 * 20000 := gbits16 hl
  have hwl := widthN_le R
  have hL : -68000 ≤ (widthN R : Int) * L ∧ (widthN R : Int) * L ≤ 68000 := by
    unfold widthN
    split <;> simp <;> omega
  have hGD : -70000 ≤ (widthN R : Int) * (G + D) ∧ (widthN R : Int) * (G + D) ≤ 70000 := by
    clear hL
    unfold widthN
    split <;> simp <;> omega
  have a1 := Int.natAbs_tdiv_le_natAbs (e + (bitLen n : Int) - 1 + 80000) (widthN R : Int)
  have a2 := Int.natAbs_tdiv_le_natAbs (80000 : Int) (widthN R : Int)
  have hres : inR R D L G gr n e = false := by
    unfold inR
    refine decide_eq_false ?_
    rintro (h | h)
    · exact h0 h
    · omega
  have hq : e < (widthN R : Int) * L := by omega
  have hkk : -2000000 ≤ (widthN R : Int) * ((e + (bitLen n : Int) - 1 + 80000).tdiv (widthN R : Int) - (80000 : Int).tdiv (widthN R : Int) - D + 1) ∧ (widthN R : Int) * ((e + (bitLen n : Int) - 1 + 80000).tdiv (widthN R : Int) - (80000 : Int).tdiv (widthN R : Int) - D + 1) ≤ 2000000 := by
    generalize (e + (bitLen n : Int) - 1 + 80000).tdiv (widthN R : Int) = u at *
    generalize (80000 : Int).tdiv (widthN R : Int) = v at *
    rcases (show widthN R = 1 ∨ widthN R = 4 from by unfold widthN; split <;> omega) with h | h <;> rw [h] <;> omega
  refine inGridW R D L G gr s ao _ ca e (widthN R) (bitLen n) ((e + (bitLen n : Int) - 1 + 80000).tdiv (widthN R : Int)) ((80000 : Int).tdiv (widthN R : Int)) ((e + (bitLen n : Int) - 1 + 80000).tdiv (widthN R : Int) - (80000 : Int).tdiv (widthN R : Int) - D + 1) (inR R D L G gr n e) w ?_ ?_ ?_ ?_ ?_ ?_ ?_ ?_ ?_ rfl rfl ?_ ?_ ?_ ?_ ?_ ?_ (fun _ => hres) (fun h => absurd hq h) (fun h => absurd hq h) (fun h => absurd hq h) (fun h => absurd hq h) (fun h => absurd hq h) ?_ ?_
  · simp
    rw [Dg.dg_nil_iff _ _ (by omega)]
    exact h0
  · simp
    omega
  · omega
  · exact IntWalk.i64_in _ ⟨by omega, by omega⟩
  · exact IntWalk.i64_in _ ⟨by omega, by omega⟩
  · exact IntWalk.i64_in _ ⟨by omega, by omega⟩
  · exact IntWalk.i64_in _ ⟨by omega, by omega⟩
  · exact IntWalk.i64_in _ ⟨by omega, by omega⟩
  · exact IntWalk.i64_in _ ⟨by omega, by omega⟩
  · exact IntWalk.i64_in _ ⟨by omega, by omega⟩
  · exact IntWalk.i64_in _ ⟨by omega, by omega⟩
  · exact IntWalk.i64_in _ ⟨by omega, by omega⟩
  · exact IntWalk.i64_in _ ⟨by omega, by omega⟩
  · exact IntWalk.i64_in _ ⟨by omega, by omega⟩
  · exact IntWalk.i64_in _ ⟨by omega, by omega⟩
  · intro w1
    have := refWidth_any R D L G gr w1
    rwa [widthR_nat] at this
  · intro w1 b
    exact reflen_small _ n w1 (hr.later b) (by omega)

theorem inGrid_all (R D L G : Int) (gr : Bool) (v : Value) (t : Trip) (w : World) (hg : gridC R D L G = 0) (hv : Rv w v t) (hl : (Dg.dg 65536 t.n).length ≤ 20000) (e1 : -200000 ≤ t.e) (e2 : t.e ≤ 200000) (h0 : t.n ≠ 0) :
    Calls Tryz.prog 14 #[v, .agg #[.int .i64 R, .int .i64 D, .int .i64 L, .int .i64 G, .bool gr]] w fun z w' => z = .returned (.bool (inR R D L G gr t.n t.e)) ∧ Below w.heap.size w w' := by
  by_cases h : -79000 ≤ t.e
  · exact inGrid_any R D L G gr v t w hg hv hl h e2
  · exact inGrid_low R D L G gr v t w hg hv hl e1 (by omega) h0

/-- What encodable answers beside encE. -/
def ebX (n c : Int) (ng : Bool) (xs : List Nat) (p : Int) : Trip := if c = 2 then bare ⟨ng, Dg.vl 4294967296 xs, (widthN (rdN n.toNat : Int) : Int) * p⟩ else ⟨false, 0, 0⟩
def ebC (n c : Int) (ng : Bool) (xs : List Nat) (p : Int) : Int := if encE n c ng xs p = 0 then c else 0
def ebG (n c : Int) (ng : Bool) (xs : List Nat) (p : Int) : Bool := if encE n c ng xs p = 0 then ng else false
def ebT (n c : Int) (ng : Bool) (xs : List Nat) (p : Int) : Trip := if encE n c ng xs p = 0 then ebX n c ng xs p else ⟨false, 0, 0⟩

theorem eb_bad {n c : Int} {ng : Bool} {xs : List Nat} {p er : Int} (h : encE n c ng xs p = er) (h0 : er ≠ 0) : 0 = ebC n c ng xs p ∧ false = ebG n c ng xs p ∧ (⟨false, 0, 0⟩ : Trip) = ebT n c ng xs p ∧ er = encE n c ng xs p := by
  unfold ebC ebG ebT
  rw [if_neg (by rw [h]; exact h0), if_neg (by rw [h]; exact h0), if_neg (by rw [h]; exact h0)]
  exact ⟨rfl, rfl, rfl, h.symm⟩

theorem eb_good {n c : Int} {ng : Bool} {xs : List Nat} {p : Int} (h : encE n c ng xs p = 0) : c = ebC n c ng xs p ∧ ng = ebG n c ng xs p ∧ ebX n c ng xs p = ebT n c ng xs p ∧ 0 = encE n c ng xs p := by
  unfold ebC ebG ebT
  rw [if_pos h, if_pos h, if_pos h]
  exact ⟨rfl, rfl, rfl, h.symm⟩

theorem spc_seven {k m : Nat} (hk : 1 ≤ k ∧ k ≤ 8) (hm : m = 1 ∨ m = 3 ∨ m = 4 ∨ m = 5) : ((((fmN k : Nat) : Int) != 1) && (((m : Int) == 3) || ((m : Int) == 4)) || (((fmN k : Nat) : Int) != 3) && ((m : Int) == 5)) = !spcOk k m := by
  rcases eight hk with rfl | rfl | rfl | rfl | rfl | rfl | rfl | rfl <;> rcases hm with rfl | rfl | rfl | rfl <;> decide

theorem spc_ten {k m : Nat} (hk : 1 ≤ k ∧ k ≤ 8) (hm : m = 1 ∨ m = 3 ∨ m = 4 ∨ m = 5) (hs : spcOk k m = true) : (decide (4 ≤ (m : Int)) || (((fmN k : Nat) : Int) == 3)) = !sgnOk k m := by
  revert hs
  rcases eight hk with rfl | rfl | rfl | rfl | rfl | rfl | rfl | rfl <;> rcases hm with rfl | rfl | rfl | rfl <;> decide

/-- The ends of the formats' grids. -/
theorem fmt_ends {k : Nat} (hk : 1 ≤ k ∧ k ≤ 8) : -16445 ≤ (widthN (rdN k : Int) : Int) * lsI k ∧ (widthN (rdN k : Int) : Int) * (gsI k + (dgN k : Int)) ≤ 16384 := by
  rcases eight hk with rfl | rfl | rfl | rfl | rfl | rfl | rfl | rfl <;> decide

/-- Numbers: Encode tells no error just where the reference's grid has it. -/
theorem num_held {k : Nat} (hk : 1 ≤ k ∧ k ≤ 8) {ng : Bool} {xs : List Nat} {p : Int} (hc : chk xs = 0) (hx : xs.length ≠ 0) (hp : ¬ (p < -20000 ∨ 20000 < p)) :
    enE k ng xs p = if inR (rdN k : Int) (dgN k : Int) (lsI k) (gsI k) (decide (k ≤ 3)) (bare ⟨ng, Dg.vl 4294967296 xs, (widthN (rdN k : Int) : Int) * p⟩).n (bare ⟨ng, Dg.vl 4294967296 xs, (widthN (rdN k : Int) : Int) * p⟩).e = true then 0 else 4 := by
  obtain ⟨f1, f2, f3, f4, f5, f6, f7, f8, f9, f10, f11, hgc⟩ := fmt_fit hk
  obtain ⟨g1, g2⟩ := fmt_ends hk
  have hvn : Dg.vl 4294967296 xs ≠ 0 := fun h => by
    obtain ⟨n1, -⟩ := chk_zero hc
    exact Dg.vl_ne_zero 4294967296 (by omega) xs (by intro e; subst e; simp at hx) n1 h
  have hpl : placeC xs p (rdN k : Int) (dgN k : Int) (lsI k) (gsI k) = 0 := by
    unfold placeC
    rw [if_pos hc, if_pos hgc, if_neg]
    unfold farB
    simp
    omega
  have hen : enN k ng xs p = shortT ⟨ng, Dg.vl 4294967296 xs, (widthN (rdN k : Int) : Int) * p⟩ := by
    unfold enN dbothR
    rw [if_pos hpl]
  unfold enE
  rw [if_neg hp, if_neg hx, hen]
  have hbn : (bare ⟨ng, Dg.vl 4294967296 xs, (widthN (rdN k : Int) : Int) * p⟩).n ≠ 0 := fun h => hvn ((bareN_nil _).1 h)
  generalize htt : (⟨ng, Dg.vl 4294967296 xs, (widthN (rdN k : Int) : Int) * p⟩ : Trip) = t at *
  have hin : ∀ hh : ¬ 1200 < (Dg.dg 4294967296 (bare t).n).length, ∀ h2 : ¬ ((bare t).e < -20000 ∨ 20000 < (bare t).e), enH k (bare t) = inR (rdN k : Int) (dgN k : Int) (lsI k) (gsI k) (decide (k ≤ 3)) (bare t).n (bare t).e := fun hh h2 => by
    unfold enH ansH
    have hd : dchk (Dg.dg 4294967296 (bare t).n) (bare t).e = 0 := by
      unfold dchk
      rw [if_pos (chk_of (Dg.norm_dg 4294967296 (bare t).n (by omega)) (by omega)), if_neg h2]
    have hon : onC (dchk (Dg.dg 4294967296 (bare t).n) (bare t).e) (gridC (rdN k : Int) (dgN k : Int) (lsI k) (gsI k)) = 0 := by unfold onC; rw [if_pos hd]; exact hgc
    rw [if_pos hon, Dg.vl_dg _ _ (by omega), held_bare _ _ f7, held_in _ _ f7]
  by_cases hi : inR (rdN k : Int) (dgN k : Int) (lsI k) (gsI k) (decide (k ≤ 3)) (bare t).n (bare t).e = true
  · rw [if_pos hi]
    have hq : (widthN (rdN k : Int) : Int) * lsI k ≤ (bare t).e ∧ (bare t).e + (bitLen (bare t).n : Int) ≤ (widthN (rdN k : Int) : Int) * (gsI k + (dgN k : Int)) := by
      have := hi
      unfold inR at this
      rcases of_decide_eq_true this with h | h
      · exact absurd h hbn
      · exact ⟨h.1, h.2.1⟩
    have hlen : ¬ 1200 < (Dg.dg 4294967296 (bare t).n).length := by
      have := two_len (d := (bare t).n) (k := bitLen (bare t).n) (L := 1200) (bitLen_spec _).1 (by omega)
      omega
    have h2 : ¬ ((bare t).e < -20000 ∨ 20000 < (bare t).e) := by omega
    have hsh : shortT t = (bare t, 0) := by unfold shortT; rw [if_neg hlen, if_neg h2]
    rw [hsh, if_pos ⟨rfl, by rw [hin hlen h2]; exact hi⟩]
  · rw [if_neg hi, if_neg]
    rintro ⟨h1, h3⟩
    unfold shortT at h1 h3
    by_cases hlen : 1200 < (Dg.dg 4294967296 (bare t).n).length
    · rw [if_pos hlen] at h1
      simp at h1
    · rw [if_neg hlen] at h1 h3
      by_cases h2 : (bare t).e < -20000 ∨ 20000 < (bare t).e
      · rw [if_pos h2] at h1
        simp at h1
      · rw [if_neg h2] at h3
        rw [hin hlen h2] at h3
        exact hi h3

theorem len_two {xs : List Nat} {L : Nat} (sa : Dg.Small 4294967296 xs) (h : xs.length ≤ L) : (Dg.dg 65536 (Dg.vl 4294967296 xs)).length ≤ 2 * L := by
  refine Dg.dg_len_le 65536 _ _ (by omega) ?_
  rw [Nat.pow_mul]
  exact Nat.lt_of_lt_of_le (Dg.vl_lt 4294967296 xs sa) (Nat.pow_le_pow_right (by omega) h)

theorem bare_small {t : Trip} (h0 : t.n ≠ 0) : (Dg.dg 65536 (bare t).n).length ≤ (Dg.dg 65536 t.n).length ∧ t.e ≤ (bare t).e ∧ (bare t).e ≤ t.e + (bitLen t.n : Int) := by
  obtain ⟨-, h2, h3⟩ := bare_top h0
  refine ⟨dg16_mono (bare_n_le t), by omega, by omega⟩

set_option maxHeartbeats 3200000 in
theorem encodable_any (n c : Int) (ng : Bool) (ao : Option Addr) (ca : Nat) (xs : List Nat) (p : Int) (w : World) (hr : Rd w .u32 (.slice ao xs.length ca) xs) (sa : Dg.Small 4294967296 xs) :
    Calls Tryz.prog 7 #[.int .i64 n, .agg #[.int .i64 c, .bool ng, .slice ao xs.length ca, .int .i64 p]] w (REnc w (ebC n c ng xs p) (ebG n c ng xs p) (ebT n c ng xs p) (encE n c ng xs p)) := by
  have HN : ∀ w1, Below w.heap.size w w1 → Calls Tryz.prog 24 #[.slice ao xs.length ca] w1 fun z w' => z = .returned (.int .i64 (chk xs)) ∧ w1 = w' := fun w1 b => (checkNat_any _ xs w1 (hr.later b)).mono (fun _ _ h => ⟨h.1, h.2.symm⟩)
  by_cases hf : famC n = 0
  · have hE : encE n c ng xs p = 6 := if_pos (.inl hf)
    refine encodable_W n 0 0 0 0 0 0 0 0 1 false false c ng ao xs.length ca p (chk xs) 0 ⟨false, 0, 0⟩ false _ _ _ _ _ _ _ _ _ _ _ _ _ _ _ (ebC n c ng xs p) (ebG n c ng xs p) (ebT n c ng xs p) (encE n c ng xs p) w rfl rfl rfl rfl rfl rfl rfl rfl rfl rfl rfl rfl rfl rfl rfl (fun w1 => format_none n w1 hf) HN ?_ ?_ ?_ ?_ ?_ (fun _ => eb_bad hE (by omega)) ?_ ?_ ?_ ?_ ?_ ?_ ?_
    · intro h; simp at h
    · intro w1
      exact cwidth_any 0 0 0 0 false w1
    all_goals (intro h; simp at h)
  · obtain ⟨h1, h2, h3⟩ := famC_in hf
    obtain ⟨k, rfl⟩ : ∃ k : Nat, n = (k : Int) := ⟨n.toNat, h3.symm⟩
    rw [Int.toNat_natCast] at h1 h2
    have hk : 1 ≤ k ∧ k ≤ 8 := ⟨h1, h2⟩
    obtain ⟨f1, f2, f3, f4, f5, f6, f7, f8, f9, f10, f11, hgc⟩ := fmt_fit hk
    have hB2 : (!true || decide (c < 1) || decide (5 < c)) = false → ¬ (famC (k : Int) = 0 ∨ c < 1 ∨ 5 < c) := fun h => by
      simp at h
      rintro (c1 | c1 | c1)
      · exact hf c1
      · omega
      · omega
    have hc2 : (c != 2) = false → c = 2 := fun h => by simpa using h
    have hnc2 : (c != 2) = true → c ≠ 2 := fun h => by simpa using h
    have hoth : (!true || decide (c < 1) || decide (5 < c)) = false → c ≠ 2 → ∃ m : Nat, c = (m : Int) ∧ (m = 1 ∨ m = 3 ∨ m = 4 ∨ m = 5) := fun h hc => by
      simp at h
      exact ⟨c.toNat, by omega, by omega⟩
    have hEo : ∀ m : Nat, c = (m : Int) → ¬ (famC (k : Int) = 0 ∨ c < 1 ∨ 5 < c) → chk xs = 0 → c ≠ 2 → encE (k : Int) c ng xs p = othE k m xs.length ng p := fun m hm hno hx hc => by
      unfold encE
      rw [if_neg hno, if_neg (fun h => h hx), if_neg hc, hm, Int.toNat_natCast, Int.toNat_natCast]
    have hEn : ¬ (famC (k : Int) = 0 ∨ c < 1 ∨ 5 < c) → chk xs = 0 → c = 2 → encE (k : Int) c ng xs p = enE k ng xs p := fun hno hx hc => by
      unfold encE
      rw [if_neg hno, if_neg (fun h => h hx), if_pos hc, Int.toNat_natCast]
    have hseven : ∀ m : Nat, c = (m : Int) → (m = 1 ∨ m = 3 ∨ m = 4 ∨ m = 5) → ((((fmN k : Nat) : Int) != 1) && ((c == 3) || (c == 4)) || (((fmN k : Nat) : Int) != 3) && (c == 5)) = !spcOk k m := fun m hm h4 => by
      rw [hm]
      exact spc_seven hk h4
    have hrange : (decide (p < -20000) || decide (20000 < p)) = false → ¬ (p < -20000 ∨ 20000 < p) := fun h => by
      simp at h
      omega
    have hwp : ¬ (p < -20000 ∨ 20000 < p) → -80000 ≤ (widthN (rdN k : Int) : Int) * p ∧ (widthN (rdN k : Int) : Int) * p ≤ 80000 := fun h => by
      rcases (show widthN (rdN k : Int) = 1 ∨ widthN (rdN k : Int) = 4 from by unfold widthN; split <;> omega) with h | h <;> rw [h] <;> omega
    refine encodable_W (k : Int) (szN k) (exN k) (frN k) (rdN k : Int) (dgN k : Int) (lsI k) (gsI k) (fmN k : Int) (widthN (rdN k : Int) : Int) (decide (k ≤ 3)) true c ng ao xs.length ca p (chk xs) (Dg.vl 4294967296 xs) (bare ⟨ng, Dg.vl 4294967296 xs, (widthN (rdN k : Int) : Int) * p⟩) (inR (rdN k : Int) (dgN k : Int) (lsI k) (gsI k) (decide (k ≤ 3)) (bare ⟨ng, Dg.vl 4294967296 xs, (widthN (rdN k : Int) : Int) * p⟩).n (bare ⟨ng, Dg.vl 4294967296 xs, (widthN (rdN k : Int) : Int) * p⟩).e) _ _ _ _ _ _ _ _ _ _ _ _ _ _ _ (ebC (k : Int) c ng xs p) (ebG (k : Int) c ng xs p) (ebT (k : Int) c ng xs p) (encE (k : Int) c ng xs p) w rfl rfl rfl rfl rfl rfl rfl rfl rfl rfl rfl rfl rfl rfl rfl (fun w1 => format_flat k hk w1) HN ?_ ?_ ?_ ?_ ?_ ?_ ?_ ?_ ?_ ?_ ?_ ?_ ?_
    · intro _ hx _ _ _ w1 b
      obtain ⟨-, hl⟩ := chk_zero hx
      exact of_any _ xs w1 (hr.later b) sa (by omega)
    · intro w1
      have := cwidth_any (rdN k : Int) (dgN k : Int) (lsI k) (gsI k) (decide (k ≤ 3)) w1
      rwa [wdI_nat] at this
    · intro _ _ _ _ h13
      have := hwp (hrange h13)
      exact IntWalk.i64_in _ ⟨by omega, by omega⟩
    · intro _ hx _ _ h13 o cp w1 h
      have := hwp (hrange h13)
      obtain ⟨-, hl⟩ := chk_zero hx
      have hl2 := len_two sa hl
      exact bared_far _ ⟨ng, Dg.vl 4294967296 xs, (widthN (rdN k : Int) : Int) * p⟩ w1 ⟨_, rfl, h⟩ (by show (Dg.dg 65536 (Dg.vl 4294967296 xs)).length ≤ 100000; omega) (by show -1000000 ≤ (widthN (rdN k : Int) : Int) * p; omega) (by show (widthN (rdN k : Int) : Int) * p ≤ 1000000; omega)
    · intro _ hx _ _ h13 hl0 o cp w1 h
      have hw := hwp (hrange h13)
      obtain ⟨hnx, hl⟩ := chk_zero hx
      have hl2 := len_two sa hl
      have hx0 : xs.length ≠ 0 := by simpa using hl0
      have hvn : Dg.vl 4294967296 xs ≠ 0 := fun hv => Dg.vl_ne_zero 4294967296 (by omega) xs (by intro e; subst e; simp at hx0) hnx hv
      have hb := bare_small (t := ⟨ng, Dg.vl 4294967296 xs, (widthN (rdN k : Int) : Int) * p⟩) hvn
      have hbn : (bare ⟨ng, Dg.vl 4294967296 xs, (widthN (rdN k : Int) : Int) * p⟩).n ≠ 0 := fun hv => hvn ((bareN_nil _).1 hv)
      have hbl : bitLen (Dg.vl 4294967296 xs) ≤ 16 * 2400 := gbits16 hl2
      simp only at hb
      exact inGrid_all _ _ _ _ _ _ _ w1 hgc ⟨_, rfl, h⟩ (by omega) (by omega) (by omega) hbn
    · intro h
      exact eb_bad (if_pos (by simp at h; omega)) (by omega)
    · intro h hx
      exact eb_bad (by unfold encE; rw [if_neg (hB2 h), if_pos hx]) hx
    · intro h hx h7
      have hc : c ≠ 2 := fun e => by subst e; simp at h7
      obtain ⟨m, hm, h4⟩ := hoth h hc
      rw [hseven m hm h4] at h7
      refine eb_bad (er := 5) ?_ (by omega)
      rw [hEo m hm (hB2 h) hx hc]
      exact if_pos (by simpa using h7)
    · intro h hx h7 h2 h10
      have hc := hnc2 h2
      obtain ⟨m, hm, h4⟩ := hoth h hc
      rw [hseven m hm h4] at h7
      have hs : spcOk k m = true := by simpa using h7
      refine eb_bad (er := 4) ?_ (by omega)
      rw [hEo m hm (hB2 h) hx hc]
      unfold othE
      rw [if_neg (by rw [hs]; simp), if_pos]
      rw [hm, spc_ten hk h4 hs] at h10
      simp at h10
      rcases h10 with (h | h) | h
      · exact .inl (by omega)
      · exact .inr (.inl h)
      · exact .inr (.inr h)
    · intro h hx h7 h2 h10
      have hc := hnc2 h2
      obtain ⟨m, hm, h4⟩ := hoth h hc
      rw [hseven m hm h4] at h7
      have hs : spcOk k m = true := by simpa using h7
      have hE : encE (k : Int) c ng xs p = 0 := by
        rw [hEo m hm (hB2 h) hx hc]
        unfold othE
        rw [if_neg (by rw [hs]; simp), if_neg]
        rw [hm, spc_ten hk h4 hs] at h10
        simp at h10
        rintro (q | q | q)
        · have h11 := h10.1.1
          rw [h11] at q
          simp at q
        · exact q h10.1.2
        · have := h10.2 q.1
          rw [q.2] at this
          simp at this
      have := eb_good hE
      unfold ebX at this
      rwa [if_neg hc] at this
    · intro h hx h7 h2 h13
      refine eb_bad (er := 3) ?_ (by omega)
      rw [hEn (hB2 h) hx (hc2 h2)]
      exact if_pos (by simp at h13; omega)
    · intro h hx h7 h2 h13 h8
      have hp := hrange h13
      refine eb_bad (er := 4) ?_ (by omega)
      rw [hEn (hB2 h) hx (hc2 h2)]
      by_cases hx0 : xs.length = 0
      · unfold enE
        rw [if_neg hp, if_pos hx0]
      · rw [num_held hk hx hx0 hp, if_neg]
        intro hq
        rw [hq] at h8
        simp at h8
        exact hx0 (by simpa using h8)
    · intro h hx h7 h2 h13 h8
      have hp := hrange h13
      simp at h8
      have hx0 : xs.length ≠ 0 := by
        have := h8.1
        simpa using this
      have hE : encE (k : Int) c ng xs p = 0 := by
        rw [hEn (hB2 h) hx (hc2 h2), num_held hk hx hx0 hp, if_pos h8.2]
      have := eb_good hE
      unfold ebX at this
      rwa [if_pos (hc2 h2), Int.toNat_natCast] at this
end Go.Proofs.YtiiphandhpilgaaGreatDoor
namespace Go.Proofs.YtiiphandhpilgaaGreatDoor
open Go.RowKit
/-- Two patterns. -/
def patA : ByteArray := strOf [64, 64, 0, 0]
def patB : ByteArray := strOf [0, 128, 0, 0]

theorem patA_ok : patC 1 patA = 0 ∧ decC 1 patA = 2 ∧ decG 1 patA = false ∧ decM 1 patA = 3 ∧ decP 1 patA = 0 := by
  refine ⟨?_, ?_, ?_, ?_, ?_⟩ <;> kernel_rfl

theorem patB_ok : encOE 6 5 0 0 false 0 = 0 ∧ encOS 6 5 0 0 false 0 = patB := by
  refine ⟨?_, ?_⟩ <;> kernel_rfl

theorem dg3 : Dg.dg 4294967296 3 = [3] := by
  have := Dg.dg_vl 4294967296 (by omega) [3] (fun i => by
    match i with
    | 0 => decide
    | i + 1 => simp) (fun _ => by simp)
  simpa [Dg.vl] using this

theorem made_run {P : Program} (W : World) (e src dst : TypeId) (zs : List Nat) (hs : P.underlying src = some (.slice e)) (he : P.underlying e = some (.int .u8)) (hd : P.underlying dst = some .string) (hm : zs.length ≤ maxLen) :
    (convert src dst (.slice (some ⟨W.heap.size, 0, none⟩) zs.length zs.length)).run P (W.alloc (.cells (zs.map (fun n : Nat => Value.int .u8 (n : Int))).toArray e)) = .ok (.string (strOf zs)) (W.alloc (.cells (zs.map (fun n : Nat => Value.int .u8 (n : Int))).toArray e)) :=
  convert_bytes src dst hs he hd (own_of_heap (base := W.heap.size) (heap_alloc_new _ _) (Nat.le_refl _) hm)

set_option maxRecDepth 100000 in
set_option maxHeartbeats 6400000 in
theorem codecBegun_any (w : World) : Calls Tryz.prog 9 #[] w fun z w' => z = .returned (.bool true) ∧ Below w.heap.size w w' := by
  have hcA : ∀ W : World, (convert 77 9 (.slice (some ⟨W.heap.size, 0, none⟩) 4 4)).run Tryz.prog (W.alloc (.cells #[.int .u8 64, .int .u8 64, .int .u8 0, .int .u8 0] 5)) = .ok (.string patA) (W.alloc (.cells #[.int .u8 64, .int .u8 64, .int .u8 0, .int .u8 0] 5)) := fun W => made_run W 5 77 9 [64, 64, 0, 0] Tryz.underlying77 Tryz.underlying5 Tryz.underlying9 (by unfold maxLen; simp)
  have hcB : ∀ W : World, (convert 77 9 (.slice (some ⟨W.heap.size, 0, none⟩) 4 4)).run Tryz.prog (W.alloc (.cells #[.int .u8 0, .int .u8 128, .int .u8 0, .int .u8 0] 5)) = .ok (.string patB) (W.alloc (.cells #[.int .u8 0, .int .u8 128, .int .u8 0, .int .u8 0] 5)) := fun W => made_run W 5 77 9 [0, 128, 0, 0] Tryz.underlying77 Tryz.underlying5 Tryz.underlying9 (by unfold maxLen; simp)
  have HD : Hid (∀ w1, Calls Tryz.prog 17 #[.int .i64 1, .string patA] w1 (DecRes w1 2 false 3 0 0)) := fun w1 => by
    have := decode_any 1 patA w1
    obtain ⟨h1, h2, h3, h4, h5⟩ := patA_ok
    rw [h1, h2, h3, h4, h5] at this
    exact this
  have HE : Hid (∀ w1, Calls Tryz.prog 6 #[.int .i64 6, .agg #[.int .i64 5, .bool false, .slice none 0 0, .int .i64 0]] w1 fun z w' => z = .returned (.tuple #[.string patB, .int .i64 0]) ∧ Below w1.heap.size w1 w') := fun w1 => by
    have := encode_other 6 5 (by omega) false none 0 0 0 0 w1 (fun w2 _ => (check_any _ [] w2 (rd_nil _ _)).mono (fun _ _ h => ⟨h.1, by rw [h.2]; exact Below.refl _ _⟩))
    rw [patB_ok.1, patB_ok.2] at this
    exact this
  generalize patA = pA at *
  generalize patB = pB at *
  have b1 := below_alloc w (.cells #[.int .u8 64, .int .u8 64, .int .u8 0, .int .u8 0] 5)
  go_enter Tryz.func9, Tryz.ntmps9
  go_wp2_with fail
  refine (HD.out _).mono ?_
  rintro z w2 ⟨v, rfl, r2, b2⟩
  rw [dg3] at r2
  obtain ⟨vo, vc, hv⟩ := r2.shape
  subst hv
  have b3 := below_alloc w2 (.cells #[.int .i64 2, .bool false, .slice vo 1 vc, .int .i64 0] 25)
  have q3 := locE_new w2 [.int .i64 2, .bool false, .slice vo 1 vc, .int .i64 0] 25
  have b03 := below_trans (below_trans b1 b2) b3
  have r3 := r2.later b3
  go_wp2_with fail
  refine (HE.out _).mono ?_
  rintro z w4 ⟨rfl, b4⟩
  have q4 := q3.later b4
  have r4 := r3.later b4
  have b04 := below_trans b03 b4
  have x0 := q4.cell 0 rfl
  have x1 := q4.cell 1 rfl
  have x2 := q4.cell 2 rfl
  have x3 := q4.cell 3 rfl
  have b5 := below_alloc w4 (.cells #[.int .u32 3] 79)
  have own5 : Own (w4.alloc (.cells #[.int .u32 3] 79)) w4.heap.size 79 .u32 (.slice (some ⟨w4.heap.size, 0, none⟩) 1 1) [3] := own_of_heap (zs := [3]) (heap_alloc_new _ _) (Nat.le_refl _) (by unfold maxLen; simp)
  have hsn := same_any _ _ _ [3] (w4.alloc (.cells #[.int .u32 3] 79)) (r4.later b5) own5.rd
  have HN : Hid _ := hsn
  have b05 := below_trans b04 b5
  have hx0 := World.new_ne w4 _ x0
  clear b1 b2 b3 b03 r2 r3 q3 HD HE hsn r4 b4 b04 own5
  go_wp2_with fail
  refine Calls.mono HN.out ?_
  rintro z w6 ⟨rfl, b6⟩
  have y3 := (q4.later b5).later b6 |>.cell 3 rfl
  have b06 := below_trans b05 b6
  go_wp2
  go_ret
  exact ⟨rfl, below_trans b06 (below_alloc _ _)⟩
end Go.Proofs.YtiiphandhpilgaaGreatDoor

/-
  Grids: the walk of GridKeeps, paid.
-/
import Derived.Test.YtmjhlflemfkflaaDoorGk4
import Derived.Test.YtmjhlflemfkflaaDoorGr8
namespace Go.Proofs.YtmjhlflemfkflaaDoor
open Go.RowKit

/-- What choose answers, of five. -/
def choose5 (c : Int) : Int := if c < 0 then (-(c + 1)) % 5 else c % 5

theorem choose5_range (c : Int) : 0 ≤ choose5 c ∧ choose5 c < 5 := by
  unfold choose5
  split <;> omega

set_option maxRecDepth 100000 in
theorem choose5_any (c : Int) (w : World) (h1 : -9223372036854775808 ≤ c) (h2 : c ≤ 9223372036854775807) :
    Calls Tryd.prog 33 #[.int .i64 c, .int .i64 5] w fun e w' => e = .returned (.int .i64 (choose5 c)) ∧ w' = w := by
  unfold choose5
  by_cases h : c < 0
  · rw [if_pos h]
    have ht : (c + 1).tmod 5 = -((-(c + 1)) % 5) := by
      have := Int.neg_tmod (-(c + 1)) 5
      rw [Int.neg_neg] at this
      have h2 : (-(c + 1)).tmod 5 = (-(c + 1)) % 5 := Int.tmod_eq_emod_of_nonneg (by omega)
      rw [this, h2]
    obtain ⟨d, hd⟩ : ∃ d : Nat, (-(c + 1)) % 5 = (d : Int) := ⟨((-(c + 1)) % 5).toNat, by omega⟩
    rw [hd] at ht ⊢
    have hdl : d < 5 := by omega
    clear hd
    go_enter Tryd.func33, Tryd.ntmps33
    go_wp2
    go_ret
    exact ⟨by go_num, rfl⟩
  · rw [if_neg h]
    obtain ⟨d, hd⟩ : ∃ d : Nat, c % 5 = (d : Int) := ⟨(c % 5).toNat, by omega⟩
    have ht : c.tmod 5 = (d : Int) := by rw [Int.tmod_eq_emod_of_nonneg (by omega)]; exact hd
    have hdl : d < 5 := by omega
    rw [hd]
    go_enter Tryd.func33, Tryd.ntmps33
    go_wp2
    go_ret
    exact ⟨by go_num, rfl⟩

theorem held_bare {R D L G : Int} (gr : Bool) (t : Trip) (hLG : L ≤ G) : heldB R D L G gr (bare t).n (bare t).e = heldB R D L G gr t.n t.e := by
  rw [← held_in gr t hLG, ← held_in gr (bare t) hLG, bare_bare]

theorem spot_held {R D L G : Int} {gr s : Bool} {d : Nat} {p : Int} (hg : gridC R D L G = 0) (h : InSpot R D L G gr d p) : heldB R D L G gr (bare ⟨s, d, (widthN R : Int) * p⟩).n (bare ⟨s, d, (widthN R : Int) * p⟩).e = true := by
  obtain ⟨-, d1, -, -, -, -, -, lg, -⟩ := gridC_zero hg
  rw [held_bare gr _ lg]
  rcases h with ⟨rfl, rfl⟩ | ⟨h0, h1, h2, h3, h4⟩
  · exact held_zero R D L G gr _
  · rw [held_spot d1 h3 h1 h4 h0]
    exact decide_eq_true h2

theorem spot_dchk {R D L G : Int} {gr s : Bool} {d : Nat} {p : Int} (hg : gridC R D L G = 0) (h : InSpot R D L G gr d p) : dchk (Dg.dg 4294967296 (bare ⟨s, d, (widthN R : Int) * p⟩).n) (bare ⟨s, d, (widthN R : Int) * p⟩).e = 0 := by
  obtain ⟨l, p1, p2, w1, w2, tzl⟩ := spot_fits hg h
  refine dchk_of ?_ ?_ ?_
  · exact Nat.le_trans (dg_len_mono _ _ d (by omega) (bare_n_le _)) (by omega)
  · by_cases h0 : d = 0
    · simp [bare, h0]
    · have := (bare_e_ge (t := ⟨s, d, (widthN R : Int) * p⟩) h0).2
      simp only at this
      omega
  · by_cases h0 : d = 0
    · simp [bare, h0]
    · have := (bare_e_ge (t := ⟨s, d, (widthN R : Int) * p⟩) h0).2
      simp only at this
      omega

/-- A number that the grid holds, as a ratio: it is rounded to itself. -/
theorem keeps_round {R D L G : Int} {gr s : Bool} {xs : List Nat} {e way : Int} (sa : Dg.Small 4294967296 xs) (hc : dchk xs e = 0) (hg : gridC R D L G = 0) (hw : isWay way = true) (hh : heldB R D L G gr (Dg.vl 4294967296 xs) e = true) :
    rndBad xs [1] e R D L G gr s way = false ∧ rndT xs [1] e R D L G gr s way = bare ⟨s, Dg.vl 4294967296 xs, e⟩ := by
  obtain ⟨-, d1, -, -, -, -, -, lg, -⟩ := gridC_zero hg
  obtain ⟨c1, e1, e2⟩ := dchk_zero hc
  have hr : ratioC xs [1] e = 0 := by
    unfold ratioC
    rw [if_pos c1, if_pos (by decide), if_neg]
    rintro (h | h)
    · cases h
    · unfold farB at h
      simp at h
      omega
  have hC : roundC xs [1] e R D L G way = 0 := by
    unfold roundC
    rw [if_pos (show wrongG (ratioC xs [1] e) (gridC R D L G) = 0 from (if_pos hr).trans hg), if_pos hw]
  have hP : roundP xs [1] e R D L G gr s way = if xs.length = 0 then ⟨false, 0, 0, true, false, false⟩ else roundT R D L G gr s (Dg.vl 4294967296 xs) (Dg.vl 4294967296 [1]) e way := if_pos hC
  by_cases hz : xs.length = 0
  · rw [if_pos hz] at hP
    have e0 : Dg.vl 4294967296 xs = 0 := by rw [List.length_eq_zero_iff.1 hz]; rfl
    have hb : rndBad xs [1] e R D L G gr s way = false := by
      unfold rndBad
      rw [hP, hC]
      rfl
    refine ⟨hb, ?_⟩
    unfold rndT
    rw [if_neg (by rw [hb]; decide), hP, e0]
    simp [bare]
  · rw [if_neg hz, show Dg.vl 4294967296 [1] = 1 from rfl] at hP
    have h0 := gvl_ne sa c1 hz
    obtain ⟨r1, r2, r3⟩ := held_round (s := s) (way := way) d1 lg h0 hh
    have hb : rndBad xs [1] e R D L G gr s way = false := by
      unfold rndBad
      rw [hP, hC, r1]
      rcases r2 with r2 | r2
      · rw [r2]
        rfl
      · rw [r2]
        simp
    refine ⟨hb, ?_⟩
    unfold rndT
    rw [if_neg (by rw [hb]; decide), hP]
    exact r3

theorem held_short {R D L G : Int} {gr s : Bool} {xs : List Nat} {e : Int} (sa : Dg.Small 4294967296 xs) (hc : dchk xs e = 0) (hg : gridC R D L G = 0) (hh : heldB R D L G gr (Dg.vl 4294967296 xs) e = true) : dbothR (dchk xs e) ⟨s, Dg.vl 4294967296 xs, e⟩ = (bare ⟨s, Dg.vl 4294967296 xs, e⟩, 0) := by
  obtain ⟨hR, d1, d2, l1, l2, g1, g2, lg, l16⟩ := gridC_zero hg
  obtain ⟨x1, x2, e1, e2⟩ := dy_len sa hc
  rw [hc]
  show shortT _ = _
  refine short_of (Nat.le_trans (dg_len_mono _ _ _ (by omega) (bare_n_le _)) x1) ?_ ?_
  · by_cases h0 : Dg.vl 4294967296 xs = 0
    · simp [bare, h0]
    · have := (bare_e_ge (t := ⟨s, Dg.vl 4294967296 xs, e⟩) h0).2
      simp only at this
      omega
  · by_cases h0 : Dg.vl 4294967296 xs = 0
    · simp [bare, h0]
    · have hb := bare_top (t := ⟨s, Dg.vl 4294967296 xs, e⟩) h0
      rw [← held_in gr ⟨s, Dg.vl 4294967296 xs, e⟩ lg] at hh
      unfold inR at hh
      rcases of_decide_eq_true hh with h | ⟨-, h, -, -⟩
      · exact absurd h hb.1
      · have hw : (widthN R : Int) * (G + D) ≤ 20000 := by
          unfold widthN
          split <;> simp <;> omega
        omega

theorem gridKeeps_walk (s : Bool) (ao : Option Addr) (ca : Nat) (xs : List Nat) (e : Int) (qs : Bool) (no : Option Addr) (nc : Nat) (us : List Nat) (mo : Option Addr) (mc : Nat) (vs : List Nat) (E R D L G : Int) (gr : Bool) (way : Int) (w : World)
    (hr : Rd w .u32 (.slice ao xs.length ca) xs) (sa : Dg.Small 4294967296 xs) (hu : Rd w .u32 (.slice no us.length nc) us) (su : Dg.Small 4294967296 us) (hv : Rd w .u32 (.slice mo vs.length mc) vs) (sv : Dg.Small 4294967296 vs) (m1 : -9223372036854775808 ≤ way) (m2 : way ≤ 9223372036854775807) (hT : Tab w) :
    Calls Tryd.prog 8 #[.agg #[.bool s, .slice ao xs.length ca, .int .i64 e], .agg #[.bool qs, .slice no us.length nc, .slice mo vs.length mc, .int .i64 E], .agg #[.int .i64 R, .int .i64 D, .int .i64 L, .int .i64 G, .bool gr], .int .i64 way] w fun z w' => z = .returned (.bool true) ∧ Below w.heap.size w w' := by
  obtain ⟨⟨ys, yn, ye⟩, hy⟩ : ∃ t, bare ⟨s, Dg.vl 4294967296 xs, e⟩ = t := ⟨_, rfl⟩
  obtain ⟨⟨zs, zn, ze⟩, hz⟩ : ∃ t, rndT us vs E R D L G gr qs way = t := ⟨_, rfl⟩
  have hact : onC (dchk xs e) (gridC R D L G) = 0 → ansH xs e R D L G gr = true → dchk xs e = 0 ∧ gridC R D L G = 0 ∧ heldB R D L G gr (Dg.vl 4294967296 xs) e = true := fun h1 h2 => by
    rw [show ansH xs e R D L G gr = heldB R D L G gr (Dg.vl 4294967296 xs) e from if_pos h1] at h2
    exact ⟨(onC_zero h1).1, (onC_zero h1).2, h2⟩
  have hch := choose5_range way
  refine gridKeepsW s ao _ ca e qs no _ nc mo _ mc E R D L G gr way (onC (dchk xs e) (gridC R D L G)) (choose5 way) (ansH xs e R D L G gr) (!rndBad us vs E R D L G gr qs way) ys yn ye zs zn ze w (IntWalk.i64_in _ ⟨by omega, by omega⟩) gbegun_any ?_ ?_ ?_ ?_ ?_ ?_ ?_
  · intro w1 b
    exact gHolds_any R D L G gr s ao ca xs e w1 (hr.later b) sa (hT.later b)
  · intro w1
    exact choose5_any way w1 m1 m2
  · intro h1 h2 ro rc w1 b r
    obtain ⟨c1, c2, c3⟩ := hact h1 h2
    obtain ⟨k1, k2⟩ := keeps_round (s := s) (way := 1 + choose5 way) sa c1 c2 (decide_eq_true (by omega)) c3
    have := rounded_any s ao ca xs ro rc [1] e R D L G gr (1 + choose5 way) w1 (hr.later b) r sa (Dg.small_cons.2 ⟨by omega, Dg.small_nil _ (by omega)⟩) (hT.later b)
    rw [k1, k2, hy] at this
    exact this
  · intro h1 h2 w1 b
    obtain ⟨c1, c2, c3⟩ := hact h1 h2
    have := dyBare_any s ao ca xs e w1 (hr.later b) sa (hT.later b)
    rw [held_short sa c1 c2 c3, hy] at this
    exact this
  · intro so sc tq tc w1 r1 r2
    have := sameDy_any ys so sc _ ye ys tq tc _ ye w1 r1 r2
    rwa [decide_eq_true ⟨rfl, rfl, rfl⟩] at this
  · intro w1 b
    have := rounded_any qs no nc us mo mc vs E R D L G gr way w1 (hu.later b) (hv.later b) su sv (hT.later b)
    rw [hz] at this
    exact this
  · intro hok so sc w1 b r
    have hb : rndBad us vs E R D L G gr qs way = false := by simpa using hok
    obtain ⟨g0, hi⟩ := rnd_spot su sv hb
    have he : (⟨zs, zn, ze⟩ : Trip) = bare ⟨(roundP us vs E R D L G gr qs way).s, (roundP us vs E R D L G gr qs way).d, (widthN R : Int) * (roundP us vs E R D L G gr qs way).p⟩ := by
      rw [← hz]
      unfold rndT
      rw [if_neg (by rw [hb]; decide)]
    have k1 := spot_held (s := (roundP us vs E R D L G gr qs way).s) g0 hi
    have k2 := spot_dchk (s := (roundP us vs E R D L G gr qs way).s) g0 hi
    rw [← he] at k1 k2
    simp only at k1 k2
    have hon : onC (dchk (Dg.dg 4294967296 zn) ze) (gridC R D L G) = 0 := (if_pos k2).trans g0
    have := gHolds_any R D L G gr zs so sc (Dg.dg 4294967296 zn) ze w1 r (Dg.small_dg _ _ (by omega)) (hT.later b)
    rw [hon, show ansH (Dg.dg 4294967296 zn) ze R D L G gr = true from (if_pos hon).trans (by rw [Dg.vl_dg _ _ (by omega)]; exact k1)] at this
    exact this
end Go.Proofs.YtmjhlflemfkflaaDoor

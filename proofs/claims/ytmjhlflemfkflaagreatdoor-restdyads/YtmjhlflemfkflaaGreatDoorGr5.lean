/-
  Grids: round's contract.
-/
import Derived.Test.YtmjhlflemfkflaaGreatDoorGr4
namespace Go.Proofs.YtmjhlflemfkflaaGreatDoor
open Go.RowKit

/-- The power for which a ratio is cut. -/
def cutP (R D L : Int) (gr : Bool) (N M : Nat) (E : Int) : Int :=
  if (decide (powerR R D (topQ N M E) < L) && gr) = true then L else powerR R D (topQ N M E)

def shP (R D L : Int) (gr : Bool) (N M : Nat) (E : Int) : Int := E - (widthN R : Int) * cutP R D L gr N M E
def wholeP (R D L : Int) (gr : Bool) (N M : Nat) (E : Int) : Nat := numP N (shP R D L gr N M E) / denP M (shP R D L gr N M E)
def leftP (R D L : Int) (gr : Bool) (N M : Nat) (E : Int) : Nat := numP N (shP R D L gr N M E) % denP M (shP R D L gr N M E)
def goesP (R D L : Int) (gr qs : Bool) (N M : Nat) (E way : Int) : Bool :=
  awayB way (cmpI ((leftP R D L gr N M E * 2 : Nat) : Int) ((denP M (shP R D L gr N M E) : Nat) : Int)) (decide (wholeP R D L gr N M E % 2 = 1)) qs
def digP (R D L : Int) (gr qs : Bool) (N M : Nat) (E way : Int) : Nat :=
  if decide (leftP R D L gr N M E = 0) = false ∧ goesP R D L gr qs N M E way = true then wholeP R D L gr N M E + 1 else wholeP R D L gr N M E

/-- Where a ratio that is not 0 comes to. -/
def roundT (R D L G : Int) (gr qs : Bool) (N M : Nat) (E way : Int) : PlaceT :=
  if digP R D L gr qs N M E way = 0 then ⟨qs, 0, 0, decide (leftP R D L gr N M E = 0), false, decide (powerR R D (topQ N M E) < L)⟩
  else ⟨qs, carD R D (digP R D L gr qs N M E way), carP R D (digP R D L gr qs N M E way) (cutP R D L gr N M E), decide (leftP R D L gr N M E = 0), decide (G < carP R D (digP R D L gr qs N M E way) (cutP R D L gr N M E)), decide (powerR R D (topQ N M E) < L)⟩

theorem topQ_range (N M : Nat) (E : Int) (hla : (Dg.dg 4294967296 N).length ≤ 10000) (hlb : (Dg.dg 4294967296 M).length ≤ 10000) (e1 : -20000 ≤ E) (e2 : E ≤ 20000) : -340001 ≤ topQ N M E ∧ topQ N M E ≤ 340001 := by
  have h1 : bitLen N ≤ 32 * 10000 := bitLen_lenG hla
  have h2 : bitLen M ≤ 32 * 10000 := bitLen_lenG hlb
  unfold topQ
  split <;> omega

theorem powerR_range {R D t : Int} (h1 : 1 ≤ D) (h2 : D ≤ 120) (t1 : -340001 ≤ t) (t2 : t ≤ 340001) : -341000 ≤ powerR R D t ∧ powerR R D t ≤ 341000 ∧ -341000 ≤ (widthN R : Int) * powerR R D t ∧ (widthN R : Int) * powerR R D t ≤ 341000 := by
  unfold powerR widthN
  split <;> omega

theorem cutP_range {R D L G : Int} {gr : Bool} {N M : Nat} {E : Int} (hg : gridC R D L G = 0) (hla : (Dg.dg 4294967296 N).length ≤ 10000) (hlb : (Dg.dg 4294967296 M).length ≤ 10000) (e1 : -20000 ≤ E) (e2 : E ≤ 20000) : -341000 ≤ cutP R D L gr N M E ∧ cutP R D L gr N M E ≤ 341000 ∧ -341000 ≤ (widthN R : Int) * cutP R D L gr N M E ∧ (widthN R : Int) * cutP R D L gr N M E ≤ 341000 := by
  obtain ⟨hR, d1, d2, l1, l2, -, -, -, -⟩ := gridC_zero hg
  obtain ⟨t1, t2⟩ := topQ_range N M E hla hlb e1 e2
  have hp := powerR_range (R := R) d1 d2 t1 t2
  unfold cutP
  split
  · have hw := widthN_le R
    unfold widthN
    split <;> omega
  · exact hp

theorem wrap_mid (x : Int) (h1 : -1000000 ≤ x) (h2 : x ≤ 1000000) : IntKind.i64.wrap x = x := by
  exact IntWalk.i64_in _ ⟨by omega, by omega⟩

set_option maxHeartbeats 1600000 in
theorem ground_any (R D L G : Int) (gr qs : Bool) (ao : Option Addr) (ca : Nat) (bo : Option Addr) (cb : Nat) (N M : Nat) (E way : Int) (fn : FuncId) (w : World) (hg : gridC R D L G = 0)
    (ha : Rd w .u32 (.slice ao (Dg.dg 4294967296 N).length ca) (Dg.dg 4294967296 N)) (hb : Rd w .u32 (.slice bo (Dg.dg 4294967296 M).length cb) (Dg.dg 4294967296 M)) (hla : (Dg.dg 4294967296 N).length ≤ 10000) (hlb : (Dg.dg 4294967296 M).length ≤ 10000) (hM : 0 < M) (e1 : -20000 ≤ E) (e2 : E ≤ 20000)
    (HE : ∀ args W, Sem.run Tryz.prog (callFunc fn args) W = .ok (.enter fn args) W)
    (HAW : ∀ half odd neg w1, Calls Tryz.prog fn #[.agg #[.int .i64 half, .bool odd, .bool neg]] w1 fun z w' => z = .returned (.bool (awayB way half odd neg)) ∧ Below w1.heap.size w1 w') :
    Calls Tryz.prog 51 #[.agg #[.int .i64 R, .int .i64 D, .int .i64 L, .int .i64 G, .bool gr], .agg #[.bool qs, .slice ao (Dg.dg 4294967296 N).length ca, .slice bo (Dg.dg 4294967296 M).length cb, .int .i64 E], .func (.func fn) #[] #[]] w (PlaceRes w (roundT R D L G gr qs N M E way)) := by
  obtain ⟨hR, d1, d2, l1, l2, g1, g2, lg, l16⟩ := gridC_zero hg
  obtain ⟨t1, t2⟩ := topQ_range N M E hla hlb e1 e2
  obtain ⟨c1, c2, c3, c4⟩ := cutP_range (gr := gr) hg hla hlb e1 e2
  have hM0 : 0 < denP M (shP R D L gr N M E) := by unfold denP; split <;> first | exact Nat.mul_pos hM (Nat.pow_pos (by omega)) | exact hM
  have n1 : -500000 ≤ shP R D L gr N M E := by unfold shP; omega
  have n2 : shP R D L gr N M E ≤ 500000 := by unfold shP; omega
  have hNl : (Dg.dg 4294967296 (numP N (shP R D L gr N M E))).length ≤ 25626 := by
    unfold numP
    split
    · omega
    · exact Nat.le_trans (up_len32 N _ 10000 15626 hla (by omega)) (by omega)
  have hMl : (Dg.dg 4294967296 (denP M (shP R D L gr N M E))).length ≤ 25626 := by
    unfold denP
    split
    · exact Nat.le_trans (up_len32 M _ 10000 15626 hlb (by omega)) (by omega)
    · omega
  have hq : (Dg.dg 4294967296 (wholeP R D L gr N M E)).length ≤ 25626 := Nat.le_trans (dg_len_mono _ _ _ (by omega) (Nat.div_le_self _ _)) hNl
  have hr : (Dg.dg 4294967296 (leftP R D L gr N M E)).length ≤ 25626 := Nat.le_trans (dg_len_mono _ _ _ (by omega) (Nat.le_of_lt (Nat.mod_lt _ hM0))) hMl
  refine groundW_any R D L G gr qs ao _ ca bo _ cb E fn (topQ N M E) (powerR R D (topQ N M E)) (cutP R D L gr N M E) (widthN R) (wholeP R D L gr N M E) (leftP R D L gr N M E) (denP M (shP R D L gr N M E)) (cmpI ((leftP R D L gr N M E * 2 : Nat) : Int) ((denP M (shP R D L gr N M E) : Nat) : Int)) (decide (wholeP R D L gr N M E % 2 = 1)) (goesP R D L gr qs N M E way) (decide (powerR R D (topQ N M E) < L)) (decide (leftP R D L gr N M E = 0)) (decide (powerR R D (topQ N M E) < L) && gr) (digP R D L gr qs N M E way) (carD R D (digP R D L gr qs N M E way)) (carP R D (digP R D L gr qs N M E way) (cutP R D L gr N M E)) (roundT R D L G gr qs N M E way) w rfl rfl rfl ?_ ?_ ?_ ?_ ?_ ?_ ?_ ?_ HE ?_ ?_ ?_ ?_ ?_ ?_ ?_ ?_ ?_ ?_
  · intro h
    exact if_pos h
  · intro h
    exact if_neg (by rw [h]; decide)
  · exact wrap_mid _ (by omega) (by omega)
  · exact wrap_mid _ (by omega) (by omega)
  · intro h1 h2
    exact if_pos ⟨h1, h2⟩
  · intro h
    refine if_neg ?_
    rintro ⟨h1, h2⟩
    rcases h with h | h
    · rw [h1] at h
      cases h
    · rw [h2] at h
      cases h
  · intro h
    exact if_pos h
  · intro h
    exact if_neg h
  · intro w1 b
    exact gtop_any qs ao ca bo cb N M E w1 (ha.later b) (hb.later b) hla hlb hM (by omega) (by omega)
  · intro w1
    exact gpower_any R D L G gr _ w1 d1 d2 (by omega) (by omega)
  · intro w1
    have := width_any R D L G gr w1
    rwa [widthR_nat] at this
  · intro w1 b
    exact gparts_any qs ao ca bo cb N M E (shP R D L gr N M E) w1 (ha.later b) (hb.later b) (by omega) (by omega) hM n1 n2
  · intro v w1 h
    have := shifted_any v _ 1 w1 h (Dg.small_dg _ _ (by omega)) (by omega) (by omega) (by omega)
    rw [Dg.vl_dg _ _ (by omega)] at this
    exact this
  · intro v u w1 h1 h2
    have := compare_any v u _ _ w1 h1 h2 (Dg.small_dg _ _ (by omega)) (Dg.small_dg _ _ (by omega)) (Dg.norm_dg _ _ (by omega)) (Dg.norm_dg _ _ (by omega))
    rwa [Dg.vl_dg _ _ (by omega), Dg.vl_dg _ _ (by omega)] at this
  · intro v w1 h
    exact odd_any v _ w1 h
  · intro w1
    exact HAW _ _ _ w1
  · intro v u w1 h1 h2
    have := plus_any v u _ _ w1 h1 h2 (Dg.small_dg _ _ (by omega)) (Dg.small_cons.2 ⟨by omega, Dg.small_nil _ (by omega)⟩) (by omega) (by simp)
    rwa [Dg.vl_dg _ _ (by omega), show Dg.vl 4294967296 [1] = 1 from rfl] at this
  · intro v base w1 ho hbs
    exact gcarried_any R D L G gr v _ _ base w1 ho hbs d1 d2 (by omega) (by omega)
end Go.Proofs.YtmjhlflemfkflaaGreatDoor

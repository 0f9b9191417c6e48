/-
  Grids: the walk of GridHolds, paid.
-/
import Derived.Test.YtmjhlflemfkflaaDoorGh6
import Derived.Test.YtmjhlflemfkflaaDoorDe
namespace Go.Proofs.YtmjhlflemfkflaaDoor
open Go.RowKit

theorem gHolds_any (R D L G : Int) (gr s : Bool) (ao : Option Addr) (ca : Nat) (xs : List Nat) (e : Int) (w : World) (hr : Rd w .u32 (.slice ao xs.length ca) xs) (sa : Dg.Small 4294967296 xs) (hT : Tab w) :
    Calls Tryd.prog 23 #[.agg #[.bool s, .slice ao xs.length ca, .int .i64 e], .agg #[.int .i64 R, .int .i64 D, .int .i64 L, .int .i64 G, .bool gr]] w fun z w' => z = .returned (.tuple #[.bool (ansH xs e R D L G gr), .int .i64 (onC (dchk xs e) (gridC R D L G))]) ∧ Below w.heap.size w w' :=
  gHoldsW R D L G gr s ao _ ca e _ _ _ _ w (fun w1 b => gfind_any R D L G gr s ao ca xs e w1 (hr.later b) sa (hT.later b))

theorem dy_len {xs : List Nat} {e : Int} (sa : Dg.Small 4294967296 xs) (h : dchk xs e = 0) : (Dg.dg 4294967296 (Dg.vl 4294967296 xs)).length ≤ 1200 ∧ xs.length ≤ 1200 ∧ -20000 ≤ e ∧ e ≤ 20000 := by
  obtain ⟨c1, e1, e2⟩ := dchk_zero h
  obtain ⟨n1, l1⟩ := chk_zero c1
  exact ⟨by rw [← Dg.eq_dg 4294967296 (by omega) xs _ sa n1 rfl]; exact l1, l1, e1, e2⟩

theorem gridHolds_walk (s : Bool) (ao : Option Addr) (ca : Nat) (xs : List Nat) (e : Int) (R D L G : Int) (gr : Bool) (w : World) (hr : Rd w .u32 (.slice ao xs.length ca) xs) (sa : Dg.Small 4294967296 xs) (hT : Tab w) :
    Calls Tryd.prog 5 #[.agg #[.bool s, .slice ao xs.length ca, .int .i64 e], .agg #[.int .i64 R, .int .i64 D, .int .i64 L, .int .i64 G, .bool gr]] w fun z w' => z = .returned (.bool true) ∧ Below w.heap.size w w' := by
  refine gridHoldsW R D L G gr s ao _ ca e (onC (dchk xs e) (gridC R D L G)) (ansH xs e R D L G gr) (bare ⟨s, Dg.vl 4294967296 xs, e⟩) w ?_ ?_ ?_ gbegun_any ?_ ?_
  · intro h
    exact if_neg h
  · intro w1 b
    exact gHolds_any R D L G gr s ao ca xs e w1 (hr.later b) sa (hT.later b)
  · intro w1 b
    exact onGrid_any R D L G gr s ao ca xs e w1 (hr.later b)
  · intro h w1 b
    obtain ⟨x1, x2, e1, e2⟩ := dy_len sa (onC_zero h).1
    exact ofDyad_any s ao ca xs e w1 (hr.later b) sa (by omega) (by omega) (by omega)
  · intro h v w1 hv
    obtain ⟨h1, h2⟩ := onC_zero h
    obtain ⟨x1, x2, e1, e2⟩ := dy_len sa h1
    obtain ⟨p1, p2, p3⟩ := bare_fits (t := ⟨s, Dg.vl 4294967296 xs, e⟩) x1 e1 e2
    have := inGrid_any R D L G gr v (bare ⟨s, Dg.vl 4294967296 xs, e⟩) w1 h2 hv (by omega) (by omega) (by omega)
    rw [held_in gr _ (gridC_zero h2).2.2.2.2.2.2.2.1] at this
    rw [show ansH xs e R D L G gr = heldB R D L G gr (Dg.vl 4294967296 xs) e from if_pos h]
    exact this
end Go.Proofs.YtmjhlflemfkflaaDoor

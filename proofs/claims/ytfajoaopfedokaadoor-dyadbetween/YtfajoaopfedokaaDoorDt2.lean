/-
  The law DyadTurns.
-/
import Derived.Test.YtfajoaopfedokaaDoorDt1
namespace Go.Proofs.YtfajoaopfedokaaDoor
open Go.RowKit

theorem dadd_R (s : Bool) (ao : Option Addr) (ca : Nat) (xs : List Nat) (e : Int) (t : Bool) (bo : Option Addr) (cb : Nat) (ys : List Nat) (f : Int) (w : World)
    (hr : Rd w .u32 (.slice ao xs.length ca) xs) (hq : Rd w .u32 (.slice bo ys.length cb) ys) (sa : Dg.Small 4294967296 xs) (sb : Dg.Small 4294967296 ys) (hT : Tab w) :
    Calls Tryd.prog 48 #[.agg #[.bool s, .slice ao xs.length ca, .int .i64 e], .agg #[.bool t, .slice bo ys.length cb, .int .i64 f]] w (DAns w (addR s xs e t ys f)) := dadd_any s ao ca xs e t bo cb ys f w hr hq sa sb hT

theorem dmul_R (s : Bool) (ao : Option Addr) (ca : Nat) (xs : List Nat) (e : Int) (t : Bool) (bo : Option Addr) (cb : Nat) (ys : List Nat) (f : Int) (w : World)
    (hr : Rd w .u32 (.slice ao xs.length ca) xs) (hq : Rd w .u32 (.slice bo ys.length cb) ys) (sa : Dg.Small 4294967296 xs) (sb : Dg.Small 4294967296 ys) (hT : Tab w) :
    Calls Tryd.prog 49 #[.agg #[.bool s, .slice ao xs.length ca, .int .i64 e], .agg #[.bool t, .slice bo ys.length cb, .int .i64 f]] w (DAns w (mulR s xs e t ys f)) := dmul_any s ao ca xs e t bo cb ys f w hr hq sa sb hT

theorem sameDy_true (s : Bool) (ao : Option Addr) (ca : Nat) (xs : List Nat) (e : Int) (bo : Option Addr) (cb : Nat) (w : World) (hr : Rd w .u32 (.slice ao xs.length ca) xs) (hq : Rd w .u32 (.slice bo xs.length cb) xs) :
    Calls Tryd.prog 28 #[.agg #[.bool s, .slice ao xs.length ca, .int .i64 e], .agg #[.bool s, .slice bo xs.length cb, .int .i64 e]] w fun z w' => z = .returned (.bool true) ∧ Below w.heap.size w w' := by
  have := sameDy_any s ao ca xs e s bo cb xs e w hr hq
  rwa [decide_eq_true ⟨rfl, rfl, rfl⟩] at this

end Go.Proofs.YtfajoaopfedokaaDoor

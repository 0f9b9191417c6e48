/-
  Balls: the law BallChecks.
-/
import Derived.Test.YtfajoaopfedokaaDoorBd
import Derived.Test.YtfajoaopfedokaaDoorBb
namespace Go.Proofs.YtfajoaopfedokaaDoor
open Go.RowKit

set_option maxRecDepth 100000 in
set_option maxHeartbeats 1600000 in
theorem bchecks_walk (s : Bool) (ao : Option Addr) (ca : Nat) (xs : List Nat) (e : Int) (t : Bool) (bo : Option Addr) (cb : Nat) (ys : List Nat) (f : Int) (w : World)
    (hr : Rd w .u32 (.slice ao xs.length ca) xs) (hq : Rd w .u32 (.slice bo ys.length cb) ys) (sa : Dg.Small 4294967296 xs) (sb : Dg.Small 4294967296 ys) (hT : Tab w) :
    Calls Tryd.prog 5 #[.agg #[.bool s, .slice ao xs.length ca, .int .i64 e, .bool t, .slice bo ys.length cb, .int .i64 f]] w fun z w' => z = .returned (.bool true) ∧ Below w.heap.size w w' := by
  have b0 := below_alloc w (.cells #[.bool s, .slice ao xs.length ca, .int .i64 e, .bool t, .slice bo ys.length cb, .int .i64 f] 43)
  have HC : Hid (∀ w1, Below w.heap.size w w1 → Calls Tryd.prog 30 #[.agg #[.bool s, .slice ao xs.length ca, .int .i64 e, .bool t, .slice bo ys.length cb, .int .i64 f]] w1 fun z w' => z = .returned (.int .i64 (bchk s xs e t ys f)) ∧ Below w1.heap.size w1 w') := fun w1 b1 => bcheck_any s ao ca xs e t bo cb ys f w1 (hr.later b1) (hq.later b1) sa sb
  have HR : Hid (∀ w1, Below w.heap.size w w1 → Calls Tryd.prog 31 #[.agg #[.bool s, .slice ao xs.length ca, .int .i64 e, .bool t, .slice bo ys.length cb, .int .i64 f]] w1 fun z w' => z = .returned (.int .i64 (bchk s xs e t ys f)) ∧ Below w1.heap.size w1 w') := fun w1 b1 => refcheckBall_any s ao ca xs e t bo cb ys f w1 (hr.later b1) (hq.later b1) sa sb
  obtain ⟨c, hc⟩ : ∃ c, bchk s xs e t ys f = c := ⟨_, rfl⟩
  rw [hc] at HC HR
  obtain ⟨la, hla⟩ : ∃ l, xs.length = l := ⟨_, rfl⟩
  obtain ⟨lb, hlb⟩ : ∃ l, ys.length = l := ⟨_, rfl⟩
  have l0 := loc6_new w (.bool s) (.slice ao xs.length ca) (.int .i64 e) (.bool t) (.slice bo ys.length cb) (.int .i64 f) 43
  have bd : Below (w.alloc (.cells #[.bool s, .slice ao xs.length ca, .int .i64 e, .bool t, .slice bo ys.length cb, .int .i64 f] 43)).heap.size (w.alloc (.cells #[.bool s, .slice ao xs.length ca, .int .i64 e, .bool t, .slice bo ys.length cb, .int .i64 f] 43)) (w.alloc (.cells #[.bool s, .slice ao xs.length ca, .int .i64 e, .bool t, .slice bo ys.length cb, .int .i64 f] 43)).drew := (Below.refl _ _).drew
  have l0 := l0.later bd
  have b02 := below_trans b0 bd
  have hb := bbegun_any _ (hT.later b02)
  have HB : Hid _ := hb
  clear hc hr hq hT b0 bd sa sb hb
  rw [hla, hlb] at HC HR l0 b02 HB ⊢
  obtain ⟨-, ⟨c0, c1, c2, c3, c4, c5⟩, -⟩ := id l0
  clear hla hlb
  go_enter Tryd.func5, Tryd.ntmps5
  go_wp2_with fail
  go_region_held3 (fun wq => wq.cell? ⟨w.heap.size, 0, none⟩ = some (.bool s) ∧ wq.cell? ⟨w.heap.size, 1, none⟩ = some (.slice ao la ca) ∧ wq.cell? ⟨w.heap.size, 2, none⟩ = some (.int .i64 e) ∧ wq.cell? ⟨w.heap.size, 3, none⟩ = some (.bool t) ∧ wq.cell? ⟨w.heap.size, 4, none⟩ = some (.slice bo lb cb) ∧ wq.cell? ⟨w.heap.size, 5, none⟩ = some (.int .i64 f)) (go_keep) (first
    | (go_at_call 29; refine Calls.mono HB.out ?_; rintro z w3 ⟨rfl, b3⟩; have l3 := l0.later b3; have b03 := below_trans b02 b3; obtain ⟨-, ⟨p0, p1, p2, p3, p4, p5⟩, -⟩ := id l3)
    | (go_at_call 30; refine (HC.out w3 b03).mono ?_; rintro z w4 ⟨rfl, b4⟩; have l4 := l3.later b4; have b04 := below_trans b03 b4; obtain ⟨-, ⟨q0, q1, q2, q3, q4, q5⟩, -⟩ := id l4)
    | (go_at_call 31; refine (HR.out w4 b04).mono ?_; rintro z w5 ⟨rfl, b5⟩; have l5 := l4.later b5; have b05 := below_trans b04 b5; obtain ⟨-, ⟨t0, t1, t2, t3, t4, t5⟩, -⟩ := id l5))
  all_goals go_wp2
  go_ret
  exact ⟨rfl, b05⟩
end Go.Proofs.YtfajoaopfedokaaDoor

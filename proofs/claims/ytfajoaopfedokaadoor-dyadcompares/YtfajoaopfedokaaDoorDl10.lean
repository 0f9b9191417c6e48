/-
  The law DyadCompares.
-/
import Derived.Test.YtfajoaopfedokaaDoorDe
namespace Go.Proofs.YtfajoaopfedokaaDoor
open Go.RowKit

theorem minusT_n (t : Trip) : (minusT t).n = t.n := rfl
theorem minusT_e (t : Trip) : (minusT t).e = t.e := rfl

set_option maxRecDepth 100000 in
set_option maxHeartbeats 3200000 in
theorem dcompares_walk (s : Bool) (ao : Option Addr) (ca : Nat) (xs : List Nat) (e : Int) (t : Bool) (bo : Option Addr) (cb : Nat) (ys : List Nat) (f : Int) (w : World) (hr : Rd w .u32 (.slice ao xs.length ca) xs) (hq : Rd w .u32 (.slice bo ys.length cb) ys) (sa : Dg.Small 4294967296 xs) (sb : Dg.Small 4294967296 ys) (hT : Tab w) :
    Calls Tryd.prog 3 #[.agg #[.bool s, .slice ao xs.length ca, .int .i64 e], .agg #[.bool t, .slice bo ys.length cb, .int .i64 f]] w fun z w' => z = .returned (.bool true) ∧ Below w.heap.size w w' := by
  have b0 := below_trans (below_alloc w (.cells #[.bool s, .slice ao xs.length ca, .int .i64 e] 25)) (below_alloc _ (.cells #[.bool t, .slice bo ys.length cb, .int .i64 f] 25))
  have la := (loc_new w (.bool s) (.slice ao xs.length ca) (.int .i64 e) 25).later (below_alloc _ (.cells #[.bool t, .slice bo ys.length cb, .int .i64 f] 25))
  have lb := loc_new (w.alloc (.cells #[.bool s, .slice ao xs.length ca, .int .i64 e] 25)) (.bool t) (.slice bo ys.length cb) (.int .i64 f) 25
  rw [World.size_alloc] at lb
  have hop := dyCompare_any s ao ca xs e t bo cb ys f _ (hr.later b0) (hq.later b0) sa sb
  have HC : Hid (∀ w1, Below w.heap.size w w1 → Calls Tryd.prog 21 #[.agg #[.bool s, .slice ao xs.length ca, .int .i64 e], .agg #[.bool t, .slice bo ys.length cb, .int .i64 f]] w1 fun z w' => z = .returned (.int .i64 (dchk2 xs e ys f)) ∧ Below w1.heap.size w1 w') := fun w1 b1 => twoDy_any s ao ca xs e t bo cb ys f w1 (hr.later b1) (hq.later b1)
  have HBG : Hid (∀ w1, Below w.heap.size w w1 → Calls Tryd.prog 24 #[] w1 fun z w' => z = .returned (.bool true) ∧ Below w1.heap.size w1 w') := fun w1 b1 => dbegun_any w1 (hT.later b1)
  obtain ⟨A, hA⟩ : ∃ A : Trip, (⟨s, Dg.vl 4294967296 xs, e⟩ : Trip) = A := ⟨_, rfl⟩
  obtain ⟨B, hB⟩ : ∃ B : Trip, (⟨t, Dg.vl 4294967296 ys, f⟩ : Trip) = B := ⟨_, rfl⟩
  have HO : Hid (dchk2 xs e ys f = 0 → (∀ w1, Below w.heap.size w w1 → Calls Tryd.prog 23 #[.agg #[.bool s, .slice ao xs.length ca, .int .i64 e]] w1 (RDRes w1 (bare A))) ∧ (∀ w1, Below w.heap.size w w1 → Calls Tryd.prog 23 #[.agg #[.bool t, .slice bo ys.length cb, .int .i64 f]] w1 (RDRes w1 (bare B))) ∧
      (∀ v u w1, Rv w1 v (bare A) → Rv w1 u (bare B) → Calls Tryd.prog 22 #[v, u] w1 fun z w' => z = .returned (.int .i64 (signT (plusT A (negT B)))) ∧ Below w1.heap.size w1 w')) := fun h => by
    obtain ⟨h1, h2⟩ := dchk2_zero h
    obtain ⟨c1, e1, e2⟩ := dchk_zero h1
    obtain ⟨c2, f1, f2⟩ := dchk_zero h2
    have z1 := chk_zero c1
    have z2 := chk_zero c2
    have x1 : (Dg.dg 4294967296 (Dg.vl 4294967296 xs)).length ≤ 1200 := by rw [← Dg.eq_dg 4294967296 (by omega) xs _ sa z1.1 rfl]; exact z1.2
    have x2 : (Dg.dg 4294967296 (Dg.vl 4294967296 ys)).length ≤ 1200 := by rw [← Dg.eq_dg 4294967296 (by omega) ys _ sb z2.1 rfl]; exact z2.2
    obtain ⟨p1, p2, p3⟩ := bare_fits (t := A) (by rw [← hA]; exact x1) (by rw [← hA]; exact e1) (by rw [← hA]; exact e2)
    obtain ⟨q1, q2, q3⟩ := bare_fits (t := B) (by rw [← hB]; exact x2) (by rw [← hB]; exact f1) (by rw [← hB]; exact f2)
    refine ⟨fun w1 b1 => ?_, fun w1 b1 => ?_, fun v u w1 hv hu => ?_⟩
    · rw [← hA]; exact ofDyad_any s ao ca xs e w1 (hr.later b1) sa (by omega) (by omega) (by omega)
    · rw [← hB]; exact ofDyad_any t bo cb ys f w1 (hq.later b1) sb (by omega) (by omega) (by omega)
    · have := refdcmp_any v u (bare A) (bare B) w1 hv hu (by omega) (by omega) (by omega) (by omega) (by omega) (by omega)
      rwa [sign_ref] at this
  rw [hA, hB] at hop
  unfold dcmpR at hop
  obtain ⟨c, hc⟩ : ∃ c, dchk2 xs e ys f = c := ⟨_, rfl⟩
  rw [hc] at hop HC HO
  obtain ⟨g, hg⟩ : ∃ g, signT (plusT A (negT B)) = g := ⟨_, rfl⟩
  rw [hg] at hop HO
  clear hr hq sa sb hT hA hB hc hg
  by_cases h : c = 0
  · subst h
    rw [if_pos rfl] at hop
    obtain ⟨hoa, hob, hrf⟩ := HO.out rfl
    obtain ⟨⟨as', an', ae'⟩, hat⟩ : ∃ bt, bare A = bt := ⟨_, rfl⟩
    obtain ⟨⟨ds', dn', de'⟩, hdt⟩ : ∃ bt, bare B = bt := ⟨_, rfl⟩
    rw [hat] at hoa hrf
    rw [hdt] at hob hrf
    have HOA : Hid (∀ w1, Below w.heap.size w w1 → Calls Tryd.prog 23 #[.agg #[.bool s, .slice ao xs.length ca, .int .i64 e]] w1 (RDRes w1 ⟨as', an', ae'⟩)) := hoa
    have HOB : Hid (∀ w1, Below w.heap.size w w1 → Calls Tryd.prog 23 #[.agg #[.bool t, .slice bo ys.length cb, .int .i64 f]] w1 (RDRes w1 ⟨ds', dn', de'⟩)) := hob
    have HRF : Hid (∀ v u w1, Rv w1 v ⟨as', an', ae'⟩ → Rv w1 u ⟨ds', dn', de'⟩ → Calls Tryd.prog 22 #[v, u] w1 fun z w' => z = .returned (.int .i64 g) ∧ Below w1.heap.size w1 w') := hrf
    clear HO hoa hob hrf hat hdt
    go_enter Tryd.func3, Tryd.ntmps3
    go_wp2_with fail
    refine hop.mono ?_
    rintro z w1 ⟨rfl, b1⟩
    have la1 := la.later b1
    have lb1 := lb.later b1
    have b01 := below_trans b0 b1
    obtain ⟨-, ⟨c0, c1, c2⟩, -⟩ := id la1
    obtain ⟨-, ⟨c3, c4, c5⟩, -⟩ := id lb1
    clear hop b0 b1 la lb
    go_wp2_with fail
    refine (HC.out _ b01).mono ?_
    rintro z w2 ⟨rfl, b2⟩
    have bd : Below w2.heap.size w2 w2.drew := (Below.refl _ _).drew
    have la3 := (la1.later b2).later bd
    have lb3 := (lb1.later b2).later bd
    have b03 := below_trans (below_trans b01 b2) bd
    clear c0 c1 c2 c3 c4 c5 b01 la1 lb1 b2 bd HC
    obtain ⟨-, ⟨c0, c1, c2⟩, -⟩ := id la3
    obtain ⟨-, ⟨c3, c4, c5⟩, -⟩ := id lb3
    go_wp2_with fail
    go_region_held3 (fun wq => (wq.cell? ⟨w.heap.size, 0, none⟩ = some (.bool s) ∧ wq.cell? ⟨w.heap.size, 1, none⟩ = some (.slice ao xs.length ca) ∧ wq.cell? ⟨w.heap.size, 2, none⟩ = some (.int .i64 e)) ∧ wq.cell? ⟨w.heap.size + 1, 0, none⟩ = some (.bool t) ∧ wq.cell? ⟨w.heap.size + 1, 1, none⟩ = some (.slice bo ys.length cb) ∧ wq.cell? ⟨w.heap.size + 1, 2, none⟩ = some (.int .i64 f)) (go_keep) (first
      | (go_at_call 23; refine (HOA.out _ b03).mono ?_; rintro z w4 ⟨v1, rfl, q1, b4⟩; have la4 := la3.later b4; have lb4 := lb3.later b4; have b04 := below_trans b03 b4; obtain ⟨-, ⟨p0, p1, p2⟩, -⟩ := id la4; obtain ⟨-, ⟨p3, p4, p5⟩, -⟩ := id lb4; clear b03)
      | (go_at_call 23; refine (HOB.out _ b04).mono ?_; rintro z w5 ⟨v2, rfl, q2, b5⟩; have la5 := la4.later b5; have lb5 := lb4.later b5; have b05 := below_trans b04 b5; have q15 := q1.later b5; obtain ⟨-, ⟨t0, t1, t2⟩, -⟩ := id la5; obtain ⟨-, ⟨t3, t4, t5⟩, -⟩ := id lb5)
      | (go_at_call 22; refine (HRF.out _ _ w5 ⟨_, rfl, q15⟩ ⟨_, rfl, q2⟩).mono ?_; rintro z w6 ⟨rfl, b6⟩; have la6 := la5.later b6; have lb6 := lb5.later b6; have b06 := below_trans b05 b6; obtain ⟨-, ⟨u0, u1, u2⟩, -⟩ := id la6; obtain ⟨-, ⟨u3, u4, u5⟩, -⟩ := id lb6))
    clear HOA HOB HRF la3 lb3 c0 c1 c2 c3 c4 c5
    go_wp2_with fail
    refine (HBG.out _ b06).mono ?_
    rintro z w7 ⟨rfl, b8⟩
    have b09 := below_trans b06 b8
    go_wp2
    go_ret
    exact ⟨rfl, b09⟩
  · rw [if_neg h] at hop
    have h3 : (c == 0) = false := by simp [h]
    clear HO
    go_enter Tryd.func3, Tryd.ntmps3
    go_wp2_with fail
    refine hop.mono ?_
    rintro z w1 ⟨rfl, b1⟩
    have la1 := la.later b1
    have lb1 := lb.later b1
    have b01 := below_trans b0 b1
    obtain ⟨-, ⟨c0, c1, c2⟩, -⟩ := id la1
    obtain ⟨-, ⟨c3, c4, c5⟩, -⟩ := id lb1
    clear hop b0 b1 la lb
    go_wp2_with fail
    refine (HC.out _ b01).mono ?_
    rintro z w2 ⟨rfl, b2⟩
    have b02 := below_trans b01 b2
    clear HC
    go_wp2_with fail
    refine (HBG.out _ b02).mono ?_
    rintro z w7 ⟨rfl, b8⟩
    have b09 := below_trans b02 b8
    go_wp2
    go_ret
    exact ⟨rfl, b09⟩
end Go.Proofs.YtfajoaopfedokaaDoor

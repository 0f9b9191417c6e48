/-
  Texts laid together: Sx2.
-/
import Derived.Test.YtiiphandhpilgaaGreatDoorNd18
set_option maxRecDepth 100000
namespace Go.Proofs.YtiiphandhpilgaaGreatDoor
open Go.RowKit
theorem sameValue_sign (c p p2 : Int) (g : Bool) (ao bo : Option Addr) (la lb ca cb : Nat) (w : World) :
  Calls Tryz.prog 19 #[.agg #[.int .i64 c, .bool g, .slice ao la ca, .int .i64 p], .agg #[.int .i64 c, .bool (!g), .slice bo lb cb, .int .i64 p2]] w fun z w' => z = .returned (.bool false) ∧ Below w.heap.size w w' := by
 have b0 := below_trans (below_alloc w (.cells #[.int .i64 c, .bool g, .slice ao la ca, .int .i64 p] 25)) (below_alloc _ (.cells #[.int .i64 c, .bool (!g), .slice bo lb cb, .int .i64 p2] 25))
 cases g
 all_goals
  go_enter Tryz.func19, Tryz.ntmps19
  go_wp2
  go_ret
  exact ⟨rfl, b0⟩
set_option maxHeartbeats 6400000 in
theorem steps_W (n : Int) (s t u : ByteArray) (er c p c2 p2 : Int) (g g2 : Bool) (m m2 : Nat) (sv : Bool) (w : World)
  (HG : ∀ w1, Calls Tryz.prog 9 #[] w1 fun z w' => z = .returned (.bool true) ∧ Below w1.heap.size w1 w')
  (HN1 : ∀ w1, Below w.heap.size w w1 → Calls Tryz.prog 10 #[.int .i64 n, .string s, .bool true] w1 fun z w' => z = .returned (.tuple #[.string t, .int .i64 er]) ∧ Below w1.heap.size w1 w')
  (HN2 : er = 0 → ∀ w1, Below w.heap.size w w1 → Calls Tryz.prog 10 #[.int .i64 n, .string t, .bool false] w1 fun z w' => z = .returned (.tuple #[.string u, .int .i64 0]) ∧ Below w1.heap.size w1 w')
  (HD1 : er = 0 → ∀ w1, Calls Tryz.prog 17 #[.int .i64 n, .string s] w1 (DecRes w1 c g m p 0))
  (HD2 : er = 0 → ∀ w1, Calls Tryz.prog 17 #[.int .i64 n, .string u] w1 (DecRes w1 c2 g2 m2 p2 0))
  (HC : er = 0 → ∀ w1, Below w.heap.size w w1 → Calls Tryz.prog 18 #[.int .i64 n, .string s, .string t] w1 fun z w' => z = .returned (.tuple #[.int .i64 (-1), .bool true, .int .i64 0]) ∧ Below w1.heap.size w1 w')
  (HS : er = 0 → ∀ ao ac bo bc w1, Rd w1 .u32 (.slice ao (Dg.dg 4294967296 m).length ac) (Dg.dg 4294967296 m) → Rd w1 .u32 (.slice bo (Dg.dg 4294967296 m2).length bc) (Dg.dg 4294967296 m2) → Calls Tryz.prog 19 #[.agg #[.int .i64 c, .bool g, .slice ao (Dg.dg 4294967296 m).length ac, .int .i64 p], .agg #[.int .i64 c2, .bool g2, .slice bo (Dg.dg 4294967296 m2).length bc, .int .i64 p2]] w1 fun z w' => z = .returned (.bool sv) ∧ Below w1.heap.size w1 w')
  (HZ : er = 0 → sv = false → c = 1 ∧ c2 = 1) :
  Calls Tryz.prog 5 #[.int .i64 n, .string s] w fun z w' => z = .returned (.bool true) ∧ Below w.heap.size w w' := by
 replace HG : Hid _ := HG
 replace HN1 : Hid _ := HN1
 replace HN2 : Hid _ := HN2
 replace HD1 : Hid _ := HD1
 replace HD2 : Hid _ := HD2
 replace HC : Hid _ := HC
 replace HS : Hid _ := HS
 replace HZ : Hid _ := HZ
 go_enter Tryz.func5, Tryz.ntmps5
 go_wp2_with fail
 refine (HG.out _).mono ?_
 rintro z w1 ⟨rfl, b1⟩
 go_wp2_with fail
 refine (HN1.out _ b1).mono ?_
 rintro z w2 ⟨rfl, b2⟩
 have b02 := below_trans b1 b2
 clear b1 b2 HN1 HG
 by_cases he : er = 0
 ·have N2 : Hid _ := HN2.out he
  have D1 : Hid _ := HD1.out he
  have D2 : Hid _ := HD2.out he
  have C : Hid _ := HC.out he
  have SV : Hid _ := HS.out he
  have Z : Hid _ := HZ.out he
  subst he
  clear HN2 HD1 HD2 HC HS HZ
  go_wp2_with fail
  refine (N2.out _ b02).mono ?_
  rintro z w3 ⟨rfl, b3⟩
  have b03 := below_trans b02 b3
  clear b02 b3 N2
  go_wp2_with fail
  refine (D1.out _).mono ?_
  rintro z w4 ⟨va, rfl, r4, b4⟩
  obtain ⟨ao, ac, hv⟩ := r4.shape
  subst hv
  have al := below_alloc w4 (.cells #[.int .i64 c, .bool g, .slice ao (Dg.dg 4294967296 m).length ac, .int .i64 p] 25)
  have la := locE_new w4 [.int .i64 c, .bool g, .slice ao (Dg.dg 4294967296 m).length ac, .int .i64 p] 25
  have ra := r4.later al
  have b04 := below_trans (below_trans b03 b4) al
  clear b03 b4 al r4 D1
  go_upto_region 8 with fail
  generalize w4.alloc (.cells #[.int .i64 c, .bool g, .slice ao (Dg.dg 4294967296 m).length ac, .int .i64 p] 25) = W4 at la ra b04 ⊢
  generalize w4.heap.size = PA at la ⊢
  go_wp2_with fail
  refine (D2.out _).mono ?_
  rintro z w5 ⟨vb, rfl, r5, b5⟩
  obtain ⟨bo, bc, hv⟩ := r5.shape
  subst hv
  have al := below_alloc w5 (.cells #[.int .i64 c2, .bool g2, .slice bo (Dg.dg 4294967296 m2).length bc, .int .i64 p2] 25)
  have lb := locE_new w5 [.int .i64 c2, .bool g2, .slice bo (Dg.dg 4294967296 m2).length bc, .int .i64 p2] 25
  have rb := r5.later al
  have la5 := (la.later b5).later al
  have ra5 := (ra.later b5).later al
  have b05 := below_trans (below_trans b04 b5) al
  clear b04 b5 al r5 D2 la ra
  go_upto_region 9 with fail
  generalize w5.alloc (.cells #[.int .i64 c2, .bool g2, .slice bo (Dg.dg 4294967296 m2).length bc, .int .i64 p2] 25) = W5 at lb rb la5 ra5 b05 ⊢
  generalize w5.heap.size = PB at lb ⊢
  go_wp2_with fail
  refine (C.out _ b05).mono ?_
  rintro z w6 ⟨rfl, b6⟩
  have la6 := la5.later b6
  have lb6 := lb.later b6
  have ra6 := ra5.later b6
  have rb6 := rb.later b6
  have b06 := below_trans b05 b6
  clear b05 b6 la5 lb ra5 rb C
  obtain ⟨x0, x1, x2, x3⟩ := la6.cs4
  obtain ⟨y0, y1, y2, y3⟩ := lb6.cs4
  go_wp2_with fail
  refine (SV.out _ _ _ _ _ ra6 rb6).mono ?_
  rintro z w7 ⟨rfl, b7⟩
  have la7 := la6.later b7
  have lb7 := lb6.later b7
  have b07 := below_trans b06 b7
  clear x0 x1 x2 x3 y0 y1 y2 y3 la6 lb6 ra6 rb6 b06 b7 SV
  obtain ⟨x0, x1, x2, x3⟩ := la7.cs4
  obtain ⟨y0, y1, y2, y3⟩ := lb7.cs4
  cases sv
  ·obtain ⟨h1, h2⟩ := Z.out rfl
   subst h1 h2
   clear la7 lb7 Z
   go_wp2
   go_ret
   exact ⟨rfl, b07⟩
  ·clear la7 lb7 Z
   go_wp2
   go_ret
   exact ⟨rfl, b07⟩
 ·have hef : (er == 0) = false := by simpa using he
  clear HN2 HD1 HD2 HC HS HZ he
  go_wp2
  go_ret
  exact ⟨rfl, b02⟩
end Go.Proofs.YtiiphandhpilgaaGreatDoor

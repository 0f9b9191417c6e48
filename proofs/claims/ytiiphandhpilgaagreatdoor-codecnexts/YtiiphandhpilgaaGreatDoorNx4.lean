/-
  Patterns: the walk of CodecNexts.
-/
import Derived.Deep.CutBlock
import Derived.Test.YtiiphandhpilgaaGreatDoorNb32
import Derived.Test.YtiiphandhpilgaaGreatDoorNb44
set_option maxRecDepth 100000
namespace Go.Proofs.YtiiphandhpilgaaGreatDoor
open Go.RowKit
set_option maxHeartbeats 12800000 in
theorem nexts_W (n : Int) (s : ByteArray) (up : Bool) (st : ByteArray) (er c f0 f1 f2 R D L G f8 cl : Int) (gr fb g ng hb : Bool) (as0 as1 : Bool) (an : Nat) (ae : Int) (bs0 bs1 : Bool) (bn : Nat) (be : Int) (ok : Bool) (w : World)
  (HA : up = true → as0 = as1 ∧ bs0 = bs1)
  (HN : ∀ w1, Below w.heap.size w w1 → Calls Tryz.prog 10 #[.int .i64 n, .string s, .bool up] w1 fun z w' => z = .returned (.tuple #[.string st, .int .i64 er]) ∧ Below w1.heap.size w1 w')
  (HO : ∀ w1, Calls Tryz.prog 11 #[.int .i64 n, .string s] w1 fun z w' => z = .returned (.int .i64 c) ∧ Below w1.heap.size w1 w')
  (HF : ∀ w1, Calls Tryz.prog 12 #[.int .i64 n] w1 fun z w' => z = .returned (.tuple #[.agg #[.int .i64 f0, .int .i64 f1, .int .i64 f2, .int .i64 R, .int .i64 D, .int .i64 L, .int .i64 G, .bool gr, .int .i64 f8], .bool fb]) ∧ Below w1.heap.size w1 w')
  (HB : ∀ w1, Calls Tryz.prog 9 #[] w1 fun z w' => z = .returned (.bool true) ∧ Below w1.heap.size w1 w')
  (HD : c = 0 → ∀ w1, Calls Tryz.prog 13 #[.int .i64 n, .string s] w1 (RDec w1 cl g ⟨as0, an, ae⟩ ng))
  (HI : c = 0 → cl ≤ 2 → ∀ ro rc w1, Rd w1 .i64 (.slice ro (Dg.dg 65536 an).length rc) (Dg.dg 65536 an) → Calls Tryz.prog 14 #[.agg #[.bool as0, .slice ro (Dg.dg 65536 an).length rc, .int .i64 ae], .agg #[.int .i64 R, .int .i64 D, .int .i64 L, .int .i64 G, .bool gr]] w1 fun z w' => z = .returned (.bool hb) ∧ Below w1.heap.size w1 w')
  (HM1 : up = false → ∀ ro rc w1, Rd w1 .i64 (.slice ro (Dg.dg 65536 an).length rc) (Dg.dg 65536 an) → Calls Tryz.prog 15 #[.agg #[.bool as0, .slice ro (Dg.dg 65536 an).length rc, .int .i64 ae]] w1 fun z w' => z = .returned (.agg #[.bool as1, .slice ro (Dg.dg 65536 an).length rc, .int .i64 ae]) ∧ Below w1.heap.size w1 w')
  (HS : c = 0 → cl ≤ 2 → hb = true → ∀ ro rc w1, Rd w1 .i64 (.slice ro (Dg.dg 65536 an).length rc) (Dg.dg 65536 an) → Calls Tryz.prog 16 #[.agg #[.bool as1, .slice ro (Dg.dg 65536 an).length rc, .int .i64 ae], .agg #[.int .i64 R, .int .i64 D, .int .i64 L, .int .i64 G, .bool gr]] w1 (SORes w1 ⟨bs0, bn, be⟩ ok))
  (HM2 : up = false → ∀ so sc w1, Rd w1 .i64 (.slice so (Dg.dg 65536 bn).length sc) (Dg.dg 65536 bn) → Calls Tryz.prog 15 #[.agg #[.bool bs0, .slice so (Dg.dg 65536 bn).length sc, .int .i64 be]] w1 fun z w' => z = .returned (.agg #[.bool bs1, .slice so (Dg.dg 65536 bn).length sc, .int .i64 be]) ∧ Below w1.heap.size w1 w')
  (HE1 : c = 0 → cl ≤ 2 → hb = true → ok = true → (Dg.dg 65536 bn).length = 0 → ∀ w1, Calls Tryz.prog 8 #[.int .i64 n, .agg #[.int .i64 1, .bool false, .bool false, .slice none 0 0, .int .i64 0]] w1 fun z w' => z = .returned (.string st) ∧ Below w1.heap.size w1 w')
  (HE2 : c = 0 → cl ≤ 2 → hb = true → ok = true → (Dg.dg 65536 bn).length ≠ 0 → ∀ so sc w1, Rd w1 .i64 (.slice so (Dg.dg 65536 bn).length sc) (Dg.dg 65536 bn) → Calls Tryz.prog 8 #[.int .i64 n, .agg #[.int .i64 2, .bool bs1, .bool bs1, .slice so (Dg.dg 65536 bn).length sc, .int .i64 be]] w1 fun z w' => z = .returned (.string st) ∧ Below w1.heap.size w1 w')
  (Q0 : c ≠ 0 → er = c ∧ st = ⟨#[]⟩) (Q1 : c = 0 → 2 < cl → er = 4 ∧ st = ⟨#[]⟩) (Q2 : c = 0 → cl ≤ 2 → hb = false → er = 4 ∧ st = ⟨#[]⟩)
  (Q3 : c = 0 → cl ≤ 2 → hb = true → ok = false → er = 5 ∧ st = ⟨#[]⟩) (Q4 : c = 0 → cl ≤ 2 → hb = true → ok = true → er = 0) :
  Calls Tryz.prog 4 #[.int .i64 n, .string s, .bool up] w fun z w' => z = .returned (.bool true) ∧ Below w.heap.size w w' := by
 replace HA : Hid _ := HA
 replace HN : Hid _ := HN
 replace HO : Hid _ := HO
 replace HF : Hid _ := HF
 replace HB : Hid _ := HB
 replace HD : Hid _ := HD
 replace HI : Hid _ := HI
 replace HM1 : Hid _ := HM1
 replace HS : Hid _ := HS
 replace HM2 : Hid _ := HM2
 replace HE1 : Hid _ := HE1
 replace HE2 : Hid _ := HE2
 replace Q0 : Hid _ := Q0
 replace Q1 : Hid _ := Q1
 replace Q2 : Hid _ := Q2
 replace Q3 : Hid _ := Q3
 replace Q4 : Hid _ := Q4
 go_enter Tryz.func4, Tryz.ntmps4
 go_wp2_with fail
 refine (HN.out _ (Below.refl _ _)).mono ?_
 rintro z w1 ⟨rfl, bb1⟩
 clear HN
 go_wp2_with fail
 refine (HO.out _).mono ?_
 rintro z w2 ⟨rfl, bb2⟩
 clear HO
 have b0_2 := below_trans bb1 bb2
 clear bb1 bb2
 go_wp2_with fail
 refine (HF.out _).mono ?_
 rintro z w3 ⟨rfl, bb3⟩
 clear HF
 have b0_3 := below_trans b0_2 bb3
 clear b0_2 bb3
 have al_PF := below_alloc w3 (.cells #[.int .i64 f0, .int .i64 f1, .int .i64 f2, .int .i64 R, .int .i64 D, .int .i64 L, .int .i64 G, .bool gr, .int .i64 f8] 44)
 have ln_PF := locE_new w3 [.int .i64 f0, .int .i64 f1, .int .i64 f2, .int .i64 R, .int .i64 D, .int .i64 L, .int .i64 G, .bool gr, .int .i64 f8] 44
 have hPF : w.heap.size ≤ w3.heap.size := b0_3.size
 have b0_4 := below_trans b0_3 al_PF
 clear b0_3 al_PF
 go_upto_region 4 with fail
 generalize w3.alloc (.cells #[.int .i64 f0, .int .i64 f1, .int .i64 f2, .int .i64 R, .int .i64 D, .int .i64 L, .int .i64 G, .bool gr, .int .i64 f8] 44) = W3 at ln_PF b0_4 ⊢
 generalize w3.heap.size = PF at ln_PF hPF  ⊢
 have al_PX := below_alloc W3 (.cells #[.int .i64 0, .bool false, .bool false, .slice none 0 0, .int .i64 0] 33)
 have ln_PX := locE_new W3 [.int .i64 0, .bool false, .bool false, .slice none 0 0, .int .i64 0] 33
 have hPX : PF < W3.heap.size := ln_PF.lt
 have f_5 := ln_PF.later al_PX
 have b0_5 := below_trans b0_4 al_PX
 clear ln_PF b0_4 al_PX
 go_upto_region 5 with fail
 generalize W3.alloc (.cells #[.int .i64 0, .bool false, .bool false, .slice none 0 0, .int .i64 0] 33) = W4 at f_5 ln_PX b0_5 ⊢
 generalize W3.heap.size = PX at ln_PX hPX  ⊢
 by_cases hc : c = 0
 ·subst hc
  replace HD : Hid _ := HD.out rfl
  replace HI : Hid _ := HI.out rfl
  replace HS : Hid _ := HS.out rfl
  replace HE1 : Hid _ := HE1.out rfl
  replace HE2 : Hid _ := HE2.out rfl
  replace Q1 : Hid _ := Q1.out rfl
  replace Q2 : Hid _ := Q2.out rfl
  replace Q3 : Hid _ := Q3.out rfl
  replace Q4 : Hid _ := Q4.out rfl
  clear Q0
  go_wp2_with fail
  refine (HD.out _).mono ?_
  rintro z w5 ⟨v5, rfl, r5, bb5⟩
  obtain ⟨ro, rc, hv5⟩ := r5.shape
  subst hv5
  simp only at r5 ⊢
  clear HD
  have f_101 := f_5.later bb5
  have x_101 := ln_PX.later bb5
  have b0_101 := below_trans b0_5 bb5
  clear f_5 ln_PX b0_5 bb5
  obtain ⟨st0, st1, st2, st3, st4⟩ := x_101.cs5
  have sf0 := x_101.free 0
  have sf1 := x_101.free 1
  have sf2 := x_101.free 2
  have sf3 := x_101.free 3
  have sf4 := x_101.free 4
  go_upto_region 7 with fail
  have bu : But PX w5 (((((w5.setCell ⟨PX, 0, none⟩ (.int .i64 cl)).setCell ⟨PX, 1, none⟩ (.bool g)).setCell ⟨PX, 2, none⟩ (.bool as0)).setCell ⟨PX, 3, none⟩ (.slice ro (Dg.dg 65536 an).length rc)).setCell ⟨PX, 4, none⟩ (.int .i64 ae)) := ((((but_set w5 PX 0 (.int .i64 cl)).trans (but_set _ PX 1 (.bool g))).trans (but_set _ PX 2 (.bool as0))).trans (but_set _ PX 3 (.slice ro (Dg.dg 65536 an).length rc))).trans (but_set _ PX 4 (.int .i64 ae))
  have f_s102 := bu.loc f_101 (by omega)
  have x_s102 : LocE (((((w5.setCell ⟨PX, 0, none⟩ (.int .i64 cl)).setCell ⟨PX, 1, none⟩ (.bool g)).setCell ⟨PX, 2, none⟩ (.bool as0)).setCell ⟨PX, 3, none⟩ (.slice ro (Dg.dg 65536 an).length rc)).setCell ⟨PX, 4, none⟩ (.int .i64 ae)) PX 33 [.int .i64 cl, .bool g, .bool as0, .slice ro (Dg.dg 65536 an).length rc, .int .i64 ae] := (((((x_101.set 0 (.int .i64 cl)).set 1 (.bool g)).set 2 (.bool as0)).set 3 (.slice ro (Dg.dg 65536 an).length rc)).set 4 (.int .i64 ae))
  have ra_s102 := bu.rd r5 (rd_offE r5 (Dg.norm_dg _ _ (by omega)) x_101 (fun x hx n hn => by simp at hx; rcases hx with rfl | rfl | rfl | rfl | rfl <;> simp <;> omega))
  have b0_s102 := bu.below b0_101 (by omega)
  generalize (((((w5.setCell ⟨PX, 0, none⟩ (.int .i64 cl)).setCell ⟨PX, 1, none⟩ (.bool g)).setCell ⟨PX, 2, none⟩ (.bool as0)).setCell ⟨PX, 3, none⟩ (.slice ro (Dg.dg 65536 an).length rc)).setCell ⟨PX, 4, none⟩ (.int .i64 ae)) = W5 at f_s102 x_s102 ra_s102 b0_s102 ⊢
  clear bu st0 sf0 st1 sf1 st2 sf2 st3 sf3 st4 sf4 f_101 x_101 r5 b0_101
  by_cases hcl : cl ≤ 2
  ·replace HI : Hid _ := HI.out hcl
   replace HS : Hid _ := HS.out hcl
   replace HE1 : Hid _ := HE1.out hcl
   replace HE2 : Hid _ := HE2.out hcl
   replace Q2 : Hid _ := Q2.out hcl
   replace Q3 : Hid _ := Q3.out hcl
   replace Q4 : Hid _ := Q4.out hcl
   clear Q1
   obtain ⟨x0, x1, x2, x3, x4, x5, x6, x7, x8⟩ := f_s102.cs9
   obtain ⟨y0, y1, y2, y3, y4⟩ := x_s102.cs5
   go_wp2_with fail
   refine (HI.out _ _ _ ra_s102).mono ?_
   rintro z w6 ⟨rfl, bb6⟩
   clear HI x0 x1 x2 x3 x4 x5 x6 x7 x8 y0 y1 y2 y3 y4
   have f_201 := f_s102.later bb6
   have x_201 := x_s102.later bb6
   have ra_201 := ra_s102.later bb6
   have b0_201 := below_trans b0_s102 bb6
   clear f_s102 x_s102 ra_s102 b0_s102 bb6
   cases hb
   ·obtain ⟨h1, h2⟩ := Q2.out rfl
    subst h1 h2
    clear HA HM1 HS HM2 HE1 HE2 Q2 Q3 Q4 f_201 x_201 ra_201
    go_wp2_with fail
    refine (HB.out _).mono ?_
    rintro z wz ⟨rfl, bbz⟩
    have bE := below_trans b0_201 bbz
    go_wp2
    go_ret
    exact ⟨rfl, bE⟩
   ·replace HS : Hid _ := HS.out rfl
    replace HE1 : Hid _ := HE1.out rfl
    replace HE2 : Hid _ := HE2.out rfl
    replace Q3 : Hid _ := Q3.out rfl
    replace Q4 : Hid _ := Q4.out rfl
    clear Q2
    obtain ⟨y0, y1, y2, y3, y4⟩ := x_201.cs5
    have offA : OffB w6.heap.size _ _ := rd_offNew ra_201 (Nat.le_refl _)
    have al_PA := below_alloc w6 (.cells #[.bool as0, .slice ro (Dg.dg 65536 an).length rc, .int .i64 ae] 31)
    have ln_PA := locE_new w6 [.bool as0, .slice ro (Dg.dg 65536 an).length rc, .int .i64 ae] 31
    have hPA : PX < w6.heap.size := x_201.lt
    have f_401 := f_201.later al_PA
    have x_401 := x_201.later al_PA
    have ra_401 := ra_201.later al_PA
    have b0_401 := below_trans b0_201 al_PA
    clear f_201 x_201 ra_201 b0_201 al_PA
    go_upto_region 11 with fail
    generalize w6.alloc (.cells #[.bool as0, .slice ro (Dg.dg 65536 an).length rc, .int .i64 ae] 31) = W6 at f_401 x_401 ra_401 ln_PA b0_401 ⊢
    generalize w6.heap.size = PA at ln_PA hPA offA ⊢
    cases up
    ·replace HM1 : Hid _ := HM1.out rfl
     replace HM2 : Hid _ := HM2.out rfl
     clear HA
     obtain ⟨y0, y1, y2⟩ := ln_PA.cs3
     go_wp2_with fail
     refine (HM1.out _ _ _ ra_401).mono ?_
     rintro z w7 ⟨rfl, bb7⟩
     clear HM1 y0 y1 y2
     have f_501 := f_401.later bb7
     have x_501 := x_401.later bb7
     have ra_501 := ra_401.later bb7
     have a_501 := ln_PA.later bb7
     have b0_501 := below_trans b0_401 bb7
     clear f_401 x_401 ra_401 ln_PA b0_401 bb7
     obtain ⟨st0, st1, st2⟩ := a_501.cs3
     have sf0 := a_501.free 0
     have sf1 := a_501.free 1
     have sf2 := a_501.free 2
     go_upto_region 13 with fail
     have bu : But PA w7 (((w7.setCell ⟨PA, 0, none⟩ (.bool as1)).setCell ⟨PA, 1, none⟩ (.slice ro (Dg.dg 65536 an).length rc)).setCell ⟨PA, 2, none⟩ (.int .i64 ae)) := ((but_set w7 PA 0 (.bool as1)).trans (but_set _ PA 1 (.slice ro (Dg.dg 65536 an).length rc))).trans (but_set _ PA 2 (.int .i64 ae))
     have f_s502 := bu.loc f_501 (by omega)
     have x_s502 := bu.loc x_501 (by omega)
     have ra_s502 := bu.rd ra_501 (offA)
     have a_s502 : LocE (((w7.setCell ⟨PA, 0, none⟩ (.bool as1)).setCell ⟨PA, 1, none⟩ (.slice ro (Dg.dg 65536 an).length rc)).setCell ⟨PA, 2, none⟩ (.int .i64 ae)) PA 31 [.bool as1, .slice ro (Dg.dg 65536 an).length rc, .int .i64 ae] := (((a_501.set 0 (.bool as1)).set 1 (.slice ro (Dg.dg 65536 an).length rc)).set 2 (.int .i64 ae))
     have b0_s502 := bu.below b0_501 (by omega)
     generalize (((w7.setCell ⟨PA, 0, none⟩ (.bool as1)).setCell ⟨PA, 1, none⟩ (.slice ro (Dg.dg 65536 an).length rc)).setCell ⟨PA, 2, none⟩ (.int .i64 ae)) = W7 at f_s502 x_s502 ra_s502 a_s502 b0_s502 ⊢
     clear bu st0 sf0 st1 sf1 st2 sf2 f_501 x_501 ra_501 a_501 b0_501
     obtain ⟨x0, x1, x2, x3, x4, x5, x6, x7, x8⟩ := f_s502.cs9
     obtain ⟨y0, y1, y2⟩ := a_s502.cs3
     go_wp2_with fail
     refine (HS.out _ _ _ ra_s502).mono ?_
     rintro z w8 ⟨v8, rfl, r8, fb8, bb8⟩
     obtain ⟨so, sc, hv8⟩ := r8.shape
     subst hv8
     simp only at r8 ⊢
     clear HS fb8 x0 x1 x2 x3 x4 x5 x6 x7 x8 y0 y1 y2
     have b0_503 := below_trans b0_s502 bb8
     clear b0_s502 bb8
     have offB : OffB w8.heap.size _ _ := rd_offNew r8 (Nat.le_refl _)
     have al_PB := below_alloc w8 (.cells #[.bool bs0, .slice so (Dg.dg 65536 bn).length sc, .int .i64 be] 31)
     have ln_PB := locE_new w8 [.bool bs0, .slice so (Dg.dg 65536 bn).length sc, .int .i64 be] 31
     have hPB : w.heap.size ≤ w8.heap.size := b0_503.size
     have rb_504 := r8.later al_PB
     have b0_504 := below_trans b0_503 al_PB
     clear r8 b0_503 al_PB
     go_upto_region 14 with fail
     generalize w8.alloc (.cells #[.bool bs0, .slice so (Dg.dg 65536 bn).length sc, .int .i64 be] 31) = W8 at rb_504 ln_PB b0_504 ⊢
     generalize w8.heap.size = PB at ln_PB hPB offB ⊢
     obtain ⟨y0, y1, y2⟩ := ln_PB.cs3
     go_wp2_with fail
     refine (HM2.out _ _ _ rb_504).mono ?_
     rintro z w9 ⟨rfl, bb9⟩
     clear HM2 y0 y1 y2
     have rb_505 := rb_504.later bb9
     have b_505 := ln_PB.later bb9
     have b0_505 := below_trans b0_504 bb9
     clear rb_504 ln_PB b0_504 bb9
     obtain ⟨st0, st1, st2⟩ := b_505.cs3
     have sf0 := b_505.free 0
     have sf1 := b_505.free 1
     have sf2 := b_505.free 2
     go_upto_block 0 with fail
     have bu : But PB w9 (((w9.setCell ⟨PB, 0, none⟩ (.bool bs1)).setCell ⟨PB, 1, none⟩ (.slice so (Dg.dg 65536 bn).length sc)).setCell ⟨PB, 2, none⟩ (.int .i64 be)) := ((but_set w9 PB 0 (.bool bs1)).trans (but_set _ PB 1 (.slice so (Dg.dg 65536 bn).length sc))).trans (but_set _ PB 2 (.int .i64 be))
     have rb_s506 := bu.rd rb_505 (offB)
     have b_s506 : LocE (((w9.setCell ⟨PB, 0, none⟩ (.bool bs1)).setCell ⟨PB, 1, none⟩ (.slice so (Dg.dg 65536 bn).length sc)).setCell ⟨PB, 2, none⟩ (.int .i64 be)) PB 31 [.bool bs1, .slice so (Dg.dg 65536 bn).length sc, .int .i64 be] := (((b_505.set 0 (.bool bs1)).set 1 (.slice so (Dg.dg 65536 bn).length sc)).set 2 (.int .i64 be))
     have b0_s506 := bu.below b0_505 (by omega)
     generalize (((w9.setCell ⟨PB, 0, none⟩ (.bool bs1)).setCell ⟨PB, 1, none⟩ (.slice so (Dg.dg 65536 bn).length sc)).setCell ⟨PB, 2, none⟩ (.int .i64 be)) = W9 at rb_s506 b_s506 b0_s506 ⊢
     clear bu st0 sf0 st1 sf1 st2 sf2 rb_505 b_505 b0_505
     obtain ⟨y0, y1, y2⟩ := b_s506.cs3
     cases ok
     ·obtain ⟨h1, h2⟩ := Q3.out rfl
      subst h1 h2
      clear HE1 HE2 Q3 Q4
      go_wp2_with fail
      refine (HB.out _).mono ?_
      rintro z wz ⟨rfl, bbz⟩
      have bE := below_trans b0_s506 bbz
      go_wp2
      go_ret
      exact ⟨rfl, bE⟩
     ·have h1 := Q4.out rfl
      subst h1
      clear Q3 Q4
      by_cases hz : (Dg.dg 65536 bn).length = 0
      ·replace HE1 : Hid _ := HE1.out rfl hz
       have hz1 : ((((Dg.dg 65536 bn).length : Nat) : Int) == 0) = true := by rw [hz]; rfl
       clear HE2 hz
       go_wp2_with fail
       refine (HE1.out _).mono ?_
       rintro z wy ⟨rfl, bby⟩
       have b0y := below_trans b0_s506 bby
       go_wp2_with fail
       refine (HB.out _).mono ?_
       rintro z wz ⟨rfl, bbz⟩
       have bE := below_trans b0y bbz
       go_wp2
       go_ret
       exact ⟨rfl, bE⟩
      ·replace HE2 : Hid _ := HE2.out rfl hz
       have hz1 : ((((Dg.dg 65536 bn).length : Nat) : Int) == 0) = false := beq_eq_false_iff_ne.2 (fun h => hz (by omega))
       clear HE1 hz
       go_wp2_with fail
       refine (HE2.out _ _ _ rb_s506).mono ?_
       rintro z wy ⟨rfl, bby⟩
       have b0y := below_trans b0_s506 bby
       go_wp2_with fail
       refine (HB.out _).mono ?_
       rintro z wz ⟨rfl, bbz⟩
       have bE := below_trans b0y bbz
       go_wp2
       go_ret
       exact ⟨rfl, bE⟩
    ·obtain ⟨h1, h2⟩ := HA.out rfl
     subst h1 h2
     clear HA HM1 HM2
     obtain ⟨x0, x1, x2, x3, x4, x5, x6, x7, x8⟩ := f_401.cs9
     obtain ⟨y0, y1, y2⟩ := ln_PA.cs3
     go_wp2_with fail
     refine (HS.out _ _ _ ra_401).mono ?_
     rintro z w8 ⟨v8, rfl, r8, fb8, bb8⟩
     obtain ⟨so, sc, hv8⟩ := r8.shape
     subst hv8
     simp only at r8 ⊢
     clear HS fb8 x0 x1 x2 x3 x4 x5 x6 x7 x8 y0 y1 y2
     have b0_701 := below_trans b0_401 bb8
     clear b0_401 bb8
     have offB : OffB w8.heap.size _ _ := rd_offNew r8 (Nat.le_refl _)
     have al_PB := below_alloc w8 (.cells #[.bool bs0, .slice so (Dg.dg 65536 bn).length sc, .int .i64 be] 31)
     have ln_PB := locE_new w8 [.bool bs0, .slice so (Dg.dg 65536 bn).length sc, .int .i64 be] 31
     have hPB : w.heap.size ≤ w8.heap.size := b0_701.size
     have rb_702 := r8.later al_PB
     have b0_702 := below_trans b0_701 al_PB
     clear r8 b0_701 al_PB
     go_upto_region 14 with fail
     generalize w8.alloc (.cells #[.bool bs0, .slice so (Dg.dg 65536 bn).length sc, .int .i64 be] 31) = W8 at rb_702 ln_PB b0_702 ⊢
     generalize w8.heap.size = PB at ln_PB hPB offB ⊢
     obtain ⟨y0, y1, y2⟩ := ln_PB.cs3
     go_upto_block 0 with fail
     cases ok
     ·obtain ⟨h1, h2⟩ := Q3.out rfl
      subst h1 h2
      clear HE1 HE2 Q3 Q4
      go_wp2_with fail
      refine (HB.out _).mono ?_
      rintro z wz ⟨rfl, bbz⟩
      have bE := below_trans b0_702 bbz
      go_wp2
      go_ret
      exact ⟨rfl, bE⟩
     ·have h1 := Q4.out rfl
      subst h1
      clear Q3 Q4
      by_cases hz : (Dg.dg 65536 bn).length = 0
      ·replace HE1 : Hid _ := HE1.out rfl hz
       have hz1 : ((((Dg.dg 65536 bn).length : Nat) : Int) == 0) = true := by rw [hz]; rfl
       clear HE2 hz
       go_wp2_with fail
       refine (HE1.out _).mono ?_
       rintro z wy ⟨rfl, bby⟩
       have b0y := below_trans b0_702 bby
       go_wp2_with fail
       refine (HB.out _).mono ?_
       rintro z wz ⟨rfl, bbz⟩
       have bE := below_trans b0y bbz
       go_wp2
       go_ret
       exact ⟨rfl, bE⟩
      ·replace HE2 : Hid _ := HE2.out rfl hz
       have hz1 : ((((Dg.dg 65536 bn).length : Nat) : Int) == 0) = false := beq_eq_false_iff_ne.2 (fun h => hz (by omega))
       clear HE1 hz
       go_wp2_with fail
       refine (HE2.out _ _ _ rb_702).mono ?_
       rintro z wy ⟨rfl, bby⟩
       have b0y := below_trans b0_702 bby
       go_wp2_with fail
       refine (HB.out _).mono ?_
       rintro z wz ⟨rfl, bbz⟩
       have bE := below_trans b0y bbz
       go_wp2
       go_ret
       exact ⟨rfl, bE⟩
  ·obtain ⟨h1, h2⟩ := Q1.out (by omega)
   subst h1 h2
   have hcl2 : 2 < cl := by omega
   clear HA HI HM1 HS HM2 HE1 HE2 Q1 Q2 Q3 Q4 hcl
   obtain ⟨x0, x1, x2, x3, x4, x5, x6, x7, x8⟩ := f_s102.cs9
   obtain ⟨y0, y1, y2, y3, y4⟩ := x_s102.cs5
   go_wp2_with fail
   refine (HB.out _).mono ?_
   rintro z wz ⟨rfl, bbz⟩
   have bE := below_trans b0_s102 bbz
   go_wp2
   go_ret
   exact ⟨rfl, bE⟩
 ·obtain ⟨h1, h2⟩ := Q0.out hc
  subst h1 h2
  have hcf : (er == 0) = false := by simpa using hc
  clear HA HD HI HM1 HS HM2 HE1 HE2 Q0 Q1 Q2 Q3 Q4 hc
  go_wp2_with fail
  refine (HB.out _).mono ?_
  rintro z wz ⟨rfl, bbz⟩
  have bE := below_trans b0_5 bbz
  go_wp2
  go_ret
  exact ⟨rfl, bE⟩
end Go.Proofs.YtiiphandhpilgaaGreatDoor

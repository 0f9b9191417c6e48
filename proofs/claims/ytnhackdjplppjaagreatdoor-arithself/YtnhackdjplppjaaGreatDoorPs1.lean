/-
  The law's words class and oneOf; the walk of ArithSelf.
-/
import Derived.Laws.ResultCell
import Derived.Test.YtnhackdjplppjaaGreatDoorAt04
set_option maxRecDepth 100000
namespace Go.Proofs.YtnhackdjplppjaaGreatDoor
open Go.RowKit
set_option maxHeartbeats 3200000 in
theorem lclass_ok (n c : Int) (g : Bool) (s : ByteArray) (w : World)
  (HC : ∀ w1, Calls Tryz.prog 94 #[.int .i64 n, .string s] w1 fun z w' => z = .returned (.tuple #[.int .i64 c, .bool g, .int .i64 0]) ∧ Below w1.heap.size w1 w') :
  Calls Tryz.prog 41 #[.int .i64 n, .string s] w fun z w' => z = .returned (.int .i64 c) ∧ Below w.heap.size w w' := by
 replace HC : Hid _ := HC
 go_enter Tryz.func41, Tryz.ntmps41
 have b0 := Below.refl w.heap.size w
 go_wp2_with fail
 refine (HC.out _).mono ?_
 rintro zz w1 ⟨rfl, bb2⟩
 have b3 := below_trans b0 bb2
 clear b0 bb2 HC
 go_wp2
 go_ret
 exact ⟨rfl, b3⟩
set_option maxHeartbeats 3200000 in
theorem lclass_err (n c e : Int) (g : Bool) (s : ByteArray) (w : World) (he : (e == 0) = false)
  (HC : ∀ w1, Calls Tryz.prog 94 #[.int .i64 n, .string s] w1 fun z w' => z = .returned (.tuple #[.int .i64 c, .bool g, .int .i64 e]) ∧ Below w1.heap.size w1 w') :
  Calls Tryz.prog 41 #[.int .i64 n, .string s] w fun z w' => z = .returned (.int .i64 0) ∧ Below w.heap.size w w' := by
 replace HC : Hid _ := HC
 go_enter Tryz.func41, Tryz.ntmps41
 have b0 := Below.refl w.heap.size w
 go_wp2_with fail
 refine (HC.out _).mono ?_
 rintro zz w1 ⟨rfl, bb2⟩
 have b3 := below_trans b0 bb2
 clear b0 bb2 HC
 go_wp2
 go_ret
 exact ⟨rfl, b3⟩
set_option maxHeartbeats 3200000 in
theorem oneOf_W (n e : Int) (st : ByteArray) (w : World)
  (HE : ∀ q w1, Below w.heap.size w w1 → LocE w1 q 141 [.int .u32 1] → Calls Tryz.prog 44 #[.int .i64 n, .agg #[.int .i64 2, .bool false, .slice (some ⟨q, 0, none⟩) 1 1, .int .i64 0]] w1 fun z w' => z = .returned (.tuple #[.string st, .int .i64 e]) ∧ Below w1.heap.size w1 w') :
  Calls Tryz.prog 42 #[.int .i64 n] w fun z w' => z = .returned (.tuple #[.string st, .int .i64 e]) ∧ Below w.heap.size w w' := by
 replace HE : Hid _ := HE
 go_enter Tryz.func42, Tryz.ntmps42
 have b0 := Below.refl w.heap.size w
 have al1 := below_alloc w (.cells #[.int .u32 1] 141)
 have q2 := locE_new w [.int .u32 1] 141
 have b3 := below_trans b0 al1
 go_wp2_with fail
 refine (HE.out _ _ b3 q2).mono ?_
 rintro zz w4 ⟨rfl, bb5⟩
 have b6 := below_trans b3 bb5
 clear q2 b3 bb5 HE b0 al1
 go_wp2
 go_ret2
 exact ⟨rfl, b6⟩
set_option maxHeartbeats 3200000 in
theorem self_err1 (m : Int) (s : ByteArray) (n way : Int) (a : ByteArray) (w : World)
  (HB : ∀ w1, Below w.heap.size w w1 → Calls Tryz.prog 20 #[] w1 fun z w' => z = .returned (.bool true) ∧ Below w1.heap.size w1 w')
  (HS : ∀ w1, Below w.heap.size w w1 → Calls Tryz.prog 22 #[.int .i64 n, .string a, .string a, .int .i64 way] w1 fun z w' => z = .returned (.tuple #[.string s, .int .i64 m, .int .i64 1]) ∧ Below w1.heap.size w1 w') :
  Calls Tryz.prog 12 #[.int .i64 n, .string a, .int .i64 way] w fun z w' => z = .returned (.bool true) ∧ Below w.heap.size w w' := by
 replace HB : Hid _ := HB
 replace HS : Hid _ := HS
 go_enter Tryz.func12, Tryz.ntmps12
 have b0 := Below.refl w.heap.size w
 go_wp2_with fail
 refine (HB.out _ b0).mono ?_
 rintro zz w1 ⟨rfl, bb2⟩
 have b3 := below_trans b0 bb2
 clear b0 bb2 HB
 go_wp2_with fail
 refine (HS.out _ b3).mono ?_
 rintro zz w4 ⟨rfl, bb5⟩
 have b6 := below_trans b3 bb5
 clear b3 bb5 HS
 go_wp2
 go_ret
 exact ⟨by simp, b6⟩
set_option maxHeartbeats 3200000 in
theorem self_err6 (m : Int) (s : ByteArray) (n way : Int) (a : ByteArray) (w : World)
  (HB : ∀ w1, Below w.heap.size w w1 → Calls Tryz.prog 20 #[] w1 fun z w' => z = .returned (.bool true) ∧ Below w1.heap.size w1 w')
  (HS : ∀ w1, Below w.heap.size w w1 → Calls Tryz.prog 22 #[.int .i64 n, .string a, .string a, .int .i64 way] w1 fun z w' => z = .returned (.tuple #[.string s, .int .i64 m, .int .i64 6]) ∧ Below w1.heap.size w1 w') :
  Calls Tryz.prog 12 #[.int .i64 n, .string a, .int .i64 way] w fun z w' => z = .returned (.bool true) ∧ Below w.heap.size w w' := by
 replace HB : Hid _ := HB
 replace HS : Hid _ := HS
 go_enter Tryz.func12, Tryz.ntmps12
 have b0 := Below.refl w.heap.size w
 go_wp2_with fail
 refine (HB.out _ b0).mono ?_
 rintro zz w1 ⟨rfl, bb2⟩
 have b3 := below_trans b0 bb2
 clear b0 bb2 HB
 go_wp2_with fail
 refine (HS.out _ b3).mono ?_
 rintro zz w4 ⟨rfl, bb5⟩
 have b6 := below_trans b3 bb5
 clear b3 bb5 HS
 go_wp2
 go_ret
 exact ⟨by simp, b6⟩
set_option maxHeartbeats 3200000 in
theorem self_off (m c : Int) (s : ByteArray) (n way : Int) (a : ByteArray) (w : World) (hc : 2 < c)
  (HB : ∀ w1, Below w.heap.size w w1 → Calls Tryz.prog 20 #[] w1 fun z w' => z = .returned (.bool true) ∧ Below w1.heap.size w1 w')
  (HS : ∀ w1, Below w.heap.size w w1 → Calls Tryz.prog 22 #[.int .i64 n, .string a, .string a, .int .i64 way] w1 fun z w' => z = .returned (.tuple #[.string s, .int .i64 m, .int .i64 0]) ∧ Below w1.heap.size w1 w')
  (HC : ∀ w1, Below w.heap.size w w1 → Calls Tryz.prog 41 #[.int .i64 n, .string a] w1 fun z w' => z = .returned (.int .i64 c) ∧ Below w1.heap.size w1 w') :
  Calls Tryz.prog 12 #[.int .i64 n, .string a, .int .i64 way] w fun z w' => z = .returned (.bool true) ∧ Below w.heap.size w w' := by
 replace HB : Hid _ := HB
 replace HS : Hid _ := HS
 replace HC : Hid _ := HC
 go_enter Tryz.func12, Tryz.ntmps12
 have b0 := Below.refl w.heap.size w
 go_wp2_with fail
 refine (HB.out _ b0).mono ?_
 rintro zz w1 ⟨rfl, bb2⟩
 have b3 := below_trans b0 bb2
 clear b0 bb2 HB
 go_wp2_with fail
 refine (HS.out _ b3).mono ?_
 rintro zz w4 ⟨rfl, bb5⟩
 have b6 := below_trans b3 bb5
 clear b3 bb5 HS
 go_wp2_with fail
 refine (HC.out _ b6).mono ?_
 rintro zz w7 ⟨rfl, bb8⟩
 have b9 := below_trans b6 bb8
 clear b6 bb8
 go_wp2
 go_ret
 exact ⟨by simp, b9⟩
set_option maxHeartbeats 3200000 in
theorem self_zero (s q o : ByteArray) (n way : Int) (a : ByteArray) (w : World)
  (HB : ∀ w1, Below w.heap.size w w1 → Calls Tryz.prog 20 #[] w1 fun z w' => z = .returned (.bool true) ∧ Below w1.heap.size w1 w')
  (HS : ∀ w1, Below w.heap.size w w1 → Calls Tryz.prog 22 #[.int .i64 n, .string a, .string a, .int .i64 way] w1 fun z w' => z = .returned (.tuple #[.string s, .int .i64 0, .int .i64 0]) ∧ Below w1.heap.size w1 w')
  (HC : ∀ w1, Below w.heap.size w w1 → Calls Tryz.prog 41 #[.int .i64 n, .string a] w1 fun z w' => z = .returned (.int .i64 1) ∧ Below w1.heap.size w1 w')
  (HK : ∀ w1, Below w.heap.size w w1 → Calls Tryz.prog 41 #[.int .i64 n, .string s] w1 fun z w' => z = .returned (.int .i64 1) ∧ Below w1.heap.size w1 w')
  (HD : ∀ w1, Below w.heap.size w w1 → Calls Tryz.prog 26 #[.int .i64 n, .string a, .string a, .int .i64 way] w1 fun z w' => z = .returned (.tuple #[.string q, .int .i64 16, .int .i64 0]) ∧ Below w1.heap.size w1 w')
  (HO : ∀ w1, Below w.heap.size w w1 → Calls Tryz.prog 42 #[.int .i64 n] w1 fun z w' => z = .returned (.tuple #[.string o, .int .i64 0]) ∧ Below w1.heap.size w1 w') :
  Calls Tryz.prog 12 #[.int .i64 n, .string a, .int .i64 way] w fun z w' => z = .returned (.bool true) ∧ Below w.heap.size w w' := by
 replace HB : Hid _ := HB
 replace HS : Hid _ := HS
 replace HC : Hid _ := HC
 replace HK : Hid _ := HK
 replace HD : Hid _ := HD
 replace HO : Hid _ := HO
 go_enter Tryz.func12, Tryz.ntmps12
 have b0 := Below.refl w.heap.size w
 go_wp2_with fail
 refine (HB.out _ b0).mono ?_
 rintro zz w1 ⟨rfl, bb2⟩
 have b3 := below_trans b0 bb2
 clear b0 bb2 HB
 go_wp2_with fail
 refine (HS.out _ b3).mono ?_
 rintro zz w4 ⟨rfl, bb5⟩
 have b6 := below_trans b3 bb5
 clear b3 bb5 HS
 go_wp2_with fail
 refine (HC.out _ b6).mono ?_
 rintro zz w7 ⟨rfl, bb8⟩
 have b9 := below_trans b6 bb8
 clear b6 bb8
 go_wp2_with fail
 refine (HK.out _ b9).mono ?_
 rintro zz w10 ⟨rfl, bb11⟩
 have b12 := below_trans b9 bb11
 clear b9 bb11
 go_wp2_with fail
 refine (HD.out _ b12).mono ?_
 rintro zz w13 ⟨rfl, bb14⟩
 have b15 := below_trans b12 bb14
 clear b12 bb14 HD
 go_wp2_with fail
 refine (HO.out _ b15).mono ?_
 rintro zz w16 ⟨rfl, bb17⟩
 have b18 := below_trans b15 bb17
 clear b15 bb17 HO
 go_wp2_with fail
 refine (HC.out _ b18).mono ?_
 rintro zz w19 ⟨rfl, bb20⟩
 have b21 := below_trans b18 bb20
 clear b18 bb20
 go_wp2
 go_ret
 exact ⟨by simp, b21⟩
set_option maxHeartbeats 3200000 in
theorem self_num (s o : ByteArray) (n way : Int) (a : ByteArray) (w : World)
  (HB : ∀ w1, Below w.heap.size w w1 → Calls Tryz.prog 20 #[] w1 fun z w' => z = .returned (.bool true) ∧ Below w1.heap.size w1 w')
  (HS : ∀ w1, Below w.heap.size w w1 → Calls Tryz.prog 22 #[.int .i64 n, .string a, .string a, .int .i64 way] w1 fun z w' => z = .returned (.tuple #[.string s, .int .i64 0, .int .i64 0]) ∧ Below w1.heap.size w1 w')
  (HC : ∀ w1, Below w.heap.size w w1 → Calls Tryz.prog 41 #[.int .i64 n, .string a] w1 fun z w' => z = .returned (.int .i64 2) ∧ Below w1.heap.size w1 w')
  (HK : ∀ w1, Below w.heap.size w w1 → Calls Tryz.prog 41 #[.int .i64 n, .string s] w1 fun z w' => z = .returned (.int .i64 1) ∧ Below w1.heap.size w1 w')
  (HD : ∀ w1, Below w.heap.size w w1 → Calls Tryz.prog 26 #[.int .i64 n, .string a, .string a, .int .i64 way] w1 fun z w' => z = .returned (.tuple #[.string o, .int .i64 0, .int .i64 0]) ∧ Below w1.heap.size w1 w')
  (HO : ∀ w1, Below w.heap.size w w1 → Calls Tryz.prog 42 #[.int .i64 n] w1 fun z w' => z = .returned (.tuple #[.string o, .int .i64 0]) ∧ Below w1.heap.size w1 w') :
  Calls Tryz.prog 12 #[.int .i64 n, .string a, .int .i64 way] w fun z w' => z = .returned (.bool true) ∧ Below w.heap.size w w' := by
 replace HB : Hid _ := HB
 replace HS : Hid _ := HS
 replace HC : Hid _ := HC
 replace HK : Hid _ := HK
 replace HD : Hid _ := HD
 replace HO : Hid _ := HO
 go_enter Tryz.func12, Tryz.ntmps12
 have b0 := Below.refl w.heap.size w
 go_wp2_with fail
 refine (HB.out _ b0).mono ?_
 rintro zz w1 ⟨rfl, bb2⟩
 have b3 := below_trans b0 bb2
 clear b0 bb2 HB
 go_wp2_with fail
 refine (HS.out _ b3).mono ?_
 rintro zz w4 ⟨rfl, bb5⟩
 have b6 := below_trans b3 bb5
 clear b3 bb5 HS
 go_wp2_with fail
 refine (HC.out _ b6).mono ?_
 rintro zz w7 ⟨rfl, bb8⟩
 have b9 := below_trans b6 bb8
 clear b6 bb8
 go_wp2_with fail
 refine (HK.out _ b9).mono ?_
 rintro zz w10 ⟨rfl, bb11⟩
 have b12 := below_trans b9 bb11
 clear b9 bb11
 go_wp2_with fail
 refine (HD.out _ b12).mono ?_
 rintro zz w13 ⟨rfl, bb14⟩
 have b15 := below_trans b12 bb14
 clear b12 bb14 HD
 go_wp2_with fail
 refine (HO.out _ b15).mono ?_
 rintro zz w16 ⟨rfl, bb17⟩
 have b18 := below_trans b15 bb17
 clear b15 bb17 HO
 go_wp2_with fail
 refine (HC.out _ b18).mono ?_
 rintro zz w19 ⟨rfl, bb20⟩
 have b21 := below_trans b18 bb20
 clear b18 bb20
 go_wp2_with fail
 refine (HC.out _ b21).mono ?_
 rintro zz w22 ⟨rfl, bb23⟩
 have b24 := below_trans b21 bb23
 clear b21 bb23
 go_wp2
 go_ret
 exact ⟨by simp, b24⟩
end Go.Proofs.YtnhackdjplppjaaGreatDoor

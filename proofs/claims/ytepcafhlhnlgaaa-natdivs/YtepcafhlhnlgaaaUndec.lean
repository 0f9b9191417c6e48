/-
  Contracts of the reference's From, Undecimal and IsDigit.
-/
import Derived.Test.YtepcafhlhnlgaaaLaws6
import Derived.Deep.RegionWith
namespace Go.Proofs.Ytepcafhlhnlgaaa
open Go.RowKit

set_option maxRecDepth 100000 in
theorem from_any (d : Nat) (w : World) (hd : d < 65536) : Calls Try.prog 62 #[.int .i64 d] w (RNum w d) := by
  obtain ⟨i0, hi, hz0, hz1, hz2⟩ := info_parts Try.infoI64
  have hone := one_digit d hd
  by_cases h : d = 0
  · subst h
    go_enter Try.func62, Try.ntmps62
    go_wp2
    refine wp_loop_rounds 1 ?_
    rw [rounds_succ]
    go_wp2
    go_ret
    exact ⟨_, rfl, (own_nil _ 0 0 _).rd, Below.refl _ _⟩
  · rw [if_neg h] at hone
    have HO : Hid (Dg.dg 65536 d = [d]) := hone
    have e1 : (d : Int) % 65536 = (d : Int) := by omega
    have e2 : (d : Int) / 65536 = 0 := by omega
    have hpos : (0 : Int) < (d : Int) := by omega
    clear hone
    go_enter Try.func62, Try.ntmps62
    go_wp2
    refine wp_loop_rounds 2 ?_
    rw [rounds_succ]
    go_wp2_with (at_builtin; refine wpList_append_own _ rfl _ _ 32 rfl w.heap.size 3 i0 (.int .i64 0) 1 8 Try.underlying32 hi hz0 hz1 hz2 rfl (by decide) _ _ _ rfl (World.ownsRow.alloc (World.ownsRow_nil w w.heap.size 3 1) _) ⟨w.heap.size, 0, none⟩ 1 1 [.int .i64 (d : Int)] rfl rfl ?c1 ?c2 ?c3 ?c4 ?c5 ?_)
    case c1 => exact cell_one_new _ _ _
    case c2 => intro u hu; simp at hu; subst hu; rfl
    case c3 => unfold maxLen; omega
    case c4 => omega
    case c5 => simp
    intro v' w3 hown' hgrow _
    have R := own_append1 (Below.refl w.heap.size w) (own_nil w w.heap.size 3 .i64) hown' hgrow
    clear hown' hgrow
    rw [List.nil_append, ← HO.out] at R
    go_wp2
    rw [rounds_succ]
    go_wp2
    go_ret
    exact ⟨_, rfl, R.1.rd, R.2⟩

set_option maxRecDepth 100000 in
theorem isDigit_any (s : ByteArray) (i : Nat) (w : World) (hi : i < s.size) (_hs : s.size ≤ 9223372036854775807) :
    Calls Try.prog 46 #[.string s, .int .i64 i] w fun e w' => e = .returned (.bool (decide (48 ≤ byt s i ∧ byt s i ≤ 57))) ∧ w' = w := by
  have hix := index_byt s i hi
  have h8 := byt_lt s i
  obtain ⟨y, hy⟩ : ∃ y, byt s i = y := ⟨_, rfl⟩
  rw [hy] at hix h8 ⊢
  clear hy
  by_cases h1 : 48 ≤ y
  · by_cases h2 : y ≤ 57
    · rw [decide_eq_true ⟨h1, h2⟩]
      have hle : decide ((y : Int) ≤ 57) = true := by simp; omega
      go_enter Try.func46, Try.ntmps46
      go_wp2
      go_ret
      exact ⟨rfl, rfl⟩
    · rw [decide_eq_false (fun h => h2 h.2)]
      have hle : decide ((y : Int) ≤ 57) = false := by simp; omega
      go_enter Try.func46, Try.ntmps46
      go_wp2
      go_ret
      exact ⟨rfl, rfl⟩
  · rw [decide_eq_false (fun h => h1 h.1)]
    go_enter Try.func46, Try.ntmps46
    go_wp2
    go_ret
    exact ⟨rfl, rfl⟩

set_option maxRecDepth 100000 in
set_option maxHeartbeats 3200000 in
theorem undecimal_any (s : ByteArray) (w : World) (hs : s.size ≤ 12000) (hd : ∀ i, i < s.size → 48 ≤ byt s i ∧ byt s i ≤ 57) :
    Calls Try.prog 47 #[.string s] w (RNum w (pv s s.size)) := by
  have HD : Hid (∀ i, i < s.size → 48 ≤ byt s i ∧ byt s i ≤ 57) := hd
  clear hd
  go_enter Try.func47, Try.ntmps47
  go_wp2
  go_loopw [3, 4] (fun av iv wr => ∃ k : Nat, k ≤ s.size ∧ iv = .int .i64 k ∧ Rd wr .i64 av (Dg.dg 65536 (pv s k)) ∧ Below w.heap.size w wr) (fun _ iv _ => s.size - (intOf iv).toNat)
  case atStart => exact ⟨0, Nat.zero_le _, rfl, (own_nil _ 0 0 _).rd, Below.refl _ _⟩
  case round =>
    obtain ⟨k, hk, rfl, hr, bel⟩ := hrel
    obtain ⟨ao, ca, rfl⟩ := hr.shape
    by_cases hlt : k < s.size
    · have hix := index_byt s k hlt
      have hdg := HD.out k hlt
      have hln : (Dg.dg 65536 (pv s k)).length ≤ 12000 := by
        refine Nat.le_trans (Dg.dg_len_le 65536 _ k (by omega) ?_) (by omega)
        exact Nat.lt_of_lt_of_le (pv_lt s HD.out k hk) (Nat.pow_le_pow_left (by omega) k)
      have hln2 : (Dg.dg 65536 (pv s k * 10)).length ≤ 20000 := by
        refine Nat.le_trans (Dg.dg_len_le 65536 _ (k + 1) (by omega) ?_) (by omega)
        have h1 := pv_lt s HD.out k hk
        have h2 : 10 ^ k ≤ 65536 ^ k := Nat.pow_le_pow_left (by omega) k
        rw [Nat.pow_succ]; omega
      have hpv : pv s (k + 1) = pv s k * 10 + (byt s k - 48) := rfl
      obtain ⟨y, hy⟩ : ∃ y, byt s k = y := ⟨_, rfl⟩
      rw [hy] at hix hdg hpv
      have HPV : Hid (pv s (k + 1) = pv s k * 10 + (y - 48)) := hpv
      obtain ⟨dd, hdd⟩ : ∃ dd, y - 48 = dd := ⟨_, rfl⟩
      have h1 := hdg.1
      have h2 := hdg.2
      have hyI : (y : Int) - 48 = (dd : Int) := by omega
      have hdl : dd < 10 := by omega
      rw [hdd] at HPV
      have e1 : IntKind.i64.wrap (y : Int) = (y : Int) := IntWalk.i64_in _ ⟨by omega, by omega⟩
      have e2 : IntKind.i64.wrap (dd : Int) = (dd : Int) := IntWalk.i64_in _ ⟨by omega, by omega⟩
      clear hy hdd hpv hdg
      have a1 : Below wr.heap.size wr (wr.alloc (.cells #[.int .i64 10] 3)).drew := ((Below.refl _ _).alloc (Nat.le_refl _) _).drew
      have r10 : Rd (wr.alloc (.cells #[.int .i64 10] 3)).drew .i64 (.slice (some ⟨wr.heap.size, 0, none⟩) 1 1) [10] := (rd_new (w := wr) (k := .i64) (e := 3) [10] #[.int .i64 10] rfl (by unfold maxLen; simp)).later (Below.drew (Below.refl _ _))
      have hti := reftimes_any _ _ _ _ _ (hr.later a1) r10 (Dg.small_dg _ _ (by omega)) (Dg.small_cons.2 ⟨by omega, Dg.small_nil _ (by omega)⟩) (by omega) (by simp)
      rw [Dg.vl_dg _ _ (by omega), show Dg.vl 65536 [10] = 10 from by decide] at hti
      have hpl : ∀ v1 v2 wx, Rd wx .i64 v1 (Dg.dg 65536 (pv s k * 10)) → Rd wx .i64 v2 (Dg.dg 65536 dd) → Calls Try.prog 29 #[v1, v2] wx (RNum wx (pv s (k + 1))) := fun v1 v2 wx q1 q2 => by
        have := refplus_any v1 v2 _ _ wx q1 q2 (Dg.small_dg _ _ (by omega)) (Dg.small_dg _ _ (by omega)) (Dg.norm_dg _ _ (by omega)) (Dg.norm_dg _ _ (by omega)) (by omega) (Nat.le_trans (dg_len_mono 65536 dd 10 (by omega) (by omega)) (by rw [one_digit 10 (by omega)]; simp))
        rwa [Dg.vl_dg _ _ (by omega), Dg.vl_dg _ _ (by omega), ← HPV.out] at this
      have HPL : Hid (∀ v1 v2 wx, Rd wx .i64 v1 (Dg.dg 65536 (pv s k * 10)) → Rd wx .i64 v2 (Dg.dg 65536 dd) → Calls Try.prog 29 #[v1, v2] wx (RNum wx (pv s (k + 1)))) := hpl
      have bela := below_trans bel a1
      clear hpl r10
      go_wp2
      go_region_with (first | (go_at_call 35; refine hti.mono ?_; rintro e w1 ⟨v1, rfl, r1, b1⟩) | (go_at_call 62; refine (from_any dd _ (by omega)).mono ?_; rintro e w2 ⟨v2, rfl, r2, b2⟩) | (go_at_call 29; refine (HPL.out v1 v2 _ (r1.later b2) r2).mono ?_; rintro e w3 ⟨v3, rfl, r3, b3⟩))
      all_goals go_wp2
      all_goals go_roundw
      all_goals first
        | exact ⟨k + 1, by omega, by go_num, r3, below_trans (below_trans (below_trans bela b1) b2) b3⟩
        | (simp [intOf]; omega)
    · have hke : k = s.size := by omega
      subst hke
      go_wp2
      go_ret
      exact ⟨_, rfl, hr, bel⟩
end Go.Proofs.Ytepcafhlhnlgaaa

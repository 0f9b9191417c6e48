/-
  Contract of the reference's From.
-/
import Derived.Test.YtfajoaopfedokaaDoorRef7
import Derived.Deep.RegionWith
namespace Go.Proofs.YtfajoaopfedokaaDoor
open Go.RowKit

set_option maxRecDepth 100000 in
theorem from_any (d : Nat) (w : World) (hd : d < 65536) : Calls Tryd.prog 128 #[.int .i64 d] w (RNum w d) := by
  obtain ⟨i0, hi, hz0, hz1, hz2⟩ := info_parts Tryd.infoI64
  have hone := one_digit d hd
  by_cases h : d = 0
  · subst h
    go_enter Tryd.func128, Tryd.ntmps128
    go_wp2
    refine wp_loop_rounds 1 ?_
    rw [rounds_succ]
    go_wp2
    go_ret
    exact ⟨_, rfl, (own_nil _ 0 0 _).rd, Below.refl _ _⟩
  · rw [if_neg h] at hone
    have HO : Hid (Dg.dg 65536 d = [d]) := hone
    have e1 : (d : Int) % 65536 = (d : Int) := by omega
    have e2 : (d : Int) / 65536 = 0 := by omega
    have hpos : (0 : Int) < (d : Int) := by omega
    clear hone
    go_enter Tryd.func128, Tryd.ntmps128
    go_wp2
    refine wp_loop_rounds 2 ?_
    rw [rounds_succ]
    go_wp2_with (at_builtin; refine wpList_append_own _ rfl _ _ 31 rfl w.heap.size 3 i0 (.int .i64 0) 1 8 Tryd.underlying31 hi hz0 hz1 hz2 rfl (by decide) _ _ _ rfl (World.ownsRow.alloc (World.ownsRow_nil w w.heap.size 3 1) _) ⟨w.heap.size, 0, none⟩ 1 1 [.int .i64 (d : Int)] rfl rfl ?c1 ?c2 ?c3 ?c4 ?c5 ?_)
    case c1 => exact cell_one_new _ _ _
    case c2 => intro u hu; simp at hu; subst hu; rfl
    case c3 => unfold maxLen; omega
    case c4 => omega
    case c5 => simp
    intro v' w3 hown' hgrow _
    have R := own_append1 (Below.refl w.heap.size w) (own_nil w w.heap.size 3 .i64) hown' hgrow
    clear hown' hgrow
    rw [List.nil_append, ← HO.out] at R
    go_wp2
    rw [rounds_succ]
    go_wp2
    go_ret
    exact ⟨_, rfl, R.1.rd, R.2⟩
end Go.Proofs.YtfajoaopfedokaaDoor

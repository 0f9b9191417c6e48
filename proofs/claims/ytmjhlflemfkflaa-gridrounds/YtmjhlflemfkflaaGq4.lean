/-
  Grids: the reference's Pow2, of its own row; rows beside a cell.
-/
import Derived.Test.YtmjhlflemfkflaaGq3
namespace Go.Proofs.Ytmjhlflemfkflaa
open Go.RowKit

/-- A row of numbers lies beside a cell that holds none. -/
theorem Rd.setC {w : World} {k : IntKind} {v : Value} {zs : List Nat} (h : Rd w k v zs) {b i : Nat} {x : Value} (hx : w.cell? ⟨b, i, none⟩ = some x) (hn : ∀ n : Int, x ≠ .int k n) (y : Value) : Rd (w.setCell ⟨b, i, none⟩ y) k v zs := by
  obtain ⟨ao, cap, rfl, h1, h2, h3⟩ := h
  refine ⟨ao, cap, rfl, h1, h2, fun hp => ?_⟩
  obtain ⟨g, off, rfl, hc⟩ := h3 hp
  refine ⟨g, off, rfl, fun j hj => ?_⟩
  have hj := hc j hj
  have hne : (⟨b, i, none⟩ : Addr) ≠ ⟨g, off + j, none⟩ := by
    intro e
    rw [← e, hx] at hj
    exact hn _ (Option.some.inj hj)
  exact (World.cell?_setCell_other _ _ _ _ hne).trans hj

set_option maxRecDepth 100000 in
set_option maxHeartbeats 1600000 in
theorem pow2_own (n wh pt : Nat) (w : World) (hn : n = 16 * wh + pt) (hpt : pt < 16) (hnl : n ≤ 1000000) :
    Calls Try.prog 44 #[.int .i64 n] w fun e w' => ∃ v, e = .returned v ∧ Own w' w.heap.size 3 .i64 v (Dg.dg 65536 (2 ^ n)) ∧ Below w.heap.size w w' := by
  have hd := pow2_digits wh pt hpt
  rw [← hn] at hd
  obtain ⟨i0, hi, hz0, hz1, hz2⟩ := info_parts Try.infoI64
  have hq : (n : Int) / 16 = (wh : Int) := by omega
  have hr : (n : Int) % 16 = (pt : Int) := by omega
  have hwl : wh ≤ 1000000 := by omega
  have HD : Hid ((List.replicate (wh + 1) 0).set wh (2 ^ pt) = Dg.dg 65536 (2 ^ n)) := hd
  clear hd hn
  go_enter Try.func44, Try.ntmps44
  go_wp2_with (at_make; refine wpList_make_full _ rfl _ _ 37 rfl w.heap.size 3 i0 (.int .i64 0) 1 Try.underlying37 hi hz0 hz1 _ _ _ _ (wh + 1) rfl rfl (by omega) (by omega) ?b2 ?b3 (Nat.le_refl _) ?_)
  case b2 => rw [hz2]; omega
  case b3 => unfold maxLen; omega
  intro w0 hown0 hgrow0
  have own0 := own_made hown0
  have bel0 : Below w.heap.size w w0 := (Below.refl _ _).grown hgrow0 (Nat.le_refl _) (fun k h => by cases h)
  clear hown0 hgrow0
  go_wp2
  go_loop [4, 5] (fun dv iv => ∃ k d : Nat, k ≤ pt ∧ iv = .int .i64 k ∧ dv = .int .i64 d ∧ Hid (d = 2 ^ k)) (fun _ iv => pt - (intOf iv).toNat)
  case atStart => exact ⟨0, 1, Nat.zero_le _, rfl, rfl, rfl⟩
  case round =>
    obtain ⟨k, d, hk, rfl, rfl, hdk⟩ := hrel
    have hdl : d ≤ 65536 := by
      rw [hdk.out]
      have : 2 ^ k ≤ 2 ^ 15 := Nat.pow_le_pow_right (by omega) (by omega)
      omega
    by_cases hlt : k < pt
    · go_wp2
      go_round
      case rel => exact ⟨k + 1, 2 * d, by omega, by go_num, by go_num, by rw [show d = 2 ^ k from hdk.out, Nat.pow_succ]; exact Nat.mul_comm _ _⟩
      case measure => simp [intOf]; omega
    · have hke : k = pt := by omega
      subst hke
      have hc := own0.cell wh (by simp)
      have hf := own0.free wh
      have own2 := own0.store wh d
      have bel2 := bel0.setCell (p := ⟨w.heap.size, wh, none⟩) (by exact Nat.le_refl _) (.int .i64 (d : Int))
      have hdd := hdk.out
      rw [show (List.replicate (wh + 1) 0).set wh d = Dg.dg 65536 (2 ^ n) from by rw [hdd]; exact HD.out] at own2
      have HO : Hid _ := own2
      have rd2 := own2.rd
      clear hdd own2
      go_wp2
      go_ret
      exact ⟨_, rfl, HO.out, bel2⟩
end Go.Proofs.Ytmjhlflemfkflaa

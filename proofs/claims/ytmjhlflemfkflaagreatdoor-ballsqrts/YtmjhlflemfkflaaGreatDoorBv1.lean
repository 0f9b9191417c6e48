/-
  Contract of the reference's DOver, DSign.
-/
import Derived.Test.YtmjhlflemfkflaaGreatDoorDk3
import Derived.Test.YtmjhlflemfkflaaGreatDoorBo
namespace Go.Proofs.YtmjhlflemfkflaaGreatDoor
open Go.RowKit

theorem tz_fits16 (n L : Nat) (h : (Dg.dg 65536 n).length ≤ L) : tz n ≤ 16 * L := by
  by_cases h0 : n = 0
  · subst h0
    exact Nat.le_trans (Nat.le_of_eq (by rfl)) (Nat.zero_le _)
  · obtain ⟨m, hm⟩ := tz_spec h0
    have h1 := bitLen_of_len16 h
    have h2 : 2 ^ tz n ≤ n := by
      have : 2 ^ tz n * 1 ≤ 2 ^ tz n * (2 * m + 1) := Nat.mul_le_mul_left _ (by omega)
      omega
    have h3 := (bitLen_spec n).1
    have h4 : 2 ^ tz n < 2 ^ bitLen n := by omega
    have h5 := (Nat.pow_lt_pow_iff_right (by omega : 1 < 2)).1 h4
    omega

theorem loc_set1 {w : World} {b : Nat} {v0 v1 v2 : Value} (h : Loc w b v0 v1 v2) (x1 : Value) : Loc (w.setCell ⟨b, 1, none⟩ x1) b v0 x1 v2 := by
  obtain ⟨hl, ⟨c0, c1, c2⟩, f0, f1, f2⟩ := h
  refine ⟨by simpa using hl, ⟨?_, ?_, ?_⟩, by simpa using f0, by simpa using f1, by simpa using f2⟩
  · rw [World.cell?_setCell_other (h := by simp)]; exact c0
  · exact World.cell?_setCell_same _ _ _ c1
  · rw [World.cell?_setCell_other (h := by simp)]; exact c2

theorem Loc.apart1 {w : World} {b c : Nat} {v0 v1 v2 : Value} (h : Loc w b v0 v1 v2) (hne : c ≠ b) (x1 : Value) : Loc (w.setCell ⟨c, 1, none⟩ x1) b v0 v1 v2 := by
  obtain ⟨hl, ⟨c0, c1, c2⟩, f0, f1, f2⟩ := h
  refine ⟨by simpa using hl, ⟨?_, ?_, ?_⟩, by simpa using f0, by simpa using f1, by simpa using f2⟩
  · rw [World.cell?_setCell_other (h := by simp)]; exact c0
  · rw [World.cell?_setCell_other (h := by simp)]; exact c1
  · rw [World.cell?_setCell_other (h := by simp)]; exact c2

/-- A row of numbers does not lie where a slice lies. -/
theorem rd_set1 {w : World} {k : IntKind} {v : Value} {zs : List Nat} {p : Nat} {a : Option Addr} {l c : Nat} (hr : Rd w k v zs) (h : w.cell? ⟨p, 1, none⟩ = some (.slice a l c)) (x : Value) : Rd (w.setCell ⟨p, 1, none⟩ x) k v zs := by
  obtain ⟨ao, cap, rfl, h1, h2, h3⟩ := hr
  refine ⟨ao, cap, rfl, h1, h2, fun hp => ?_⟩
  obtain ⟨b, off, rfl, hc⟩ := h3 hp
  refine ⟨b, off, rfl, fun i hi => ?_⟩
  have k1 := hc i hi
  rw [World.cell?_setCell_other (h := ?_)]
  · exact k1
  · intro e
    rw [← e, h] at k1
    cases k1

set_option maxRecDepth 100000 in
theorem refdsign_any (v : Value) (a : Trip) (w : World) (hv : Rv w v (bare a)) (hLa : (Dg.dg 65536 (bare a).n).length ≤ 30000) (ha1 : -200000 ≤ (bare a).e) (ha2 : (bare a).e ≤ 200000) :
    Calls Tryz.prog 8 #[v] w fun z w' => z = .returned (.int .i64 (cmpT a zeroT)) ∧ Below w.heap.size w w' := by
  have HC : Hid (∀ w1, Below w.heap.size w w1 → Calls Tryz.prog 19 #[v, .agg #[.bool false, .slice none 0 0, .int .i64 0]] w1 fun z w' => z = .returned (.int .i64 (cmpT a zeroT)) ∧ Below w1.heap.size w1 w') := fun w1 b1 => by
    have h := refdcmp_any v (.agg #[.bool false, .slice none 0 0, .int .i64 0]) (bare a) (bare zeroT) w1 (hv.later b1) ⟨_, rfl, rd_nil _ _⟩ hLa (by show (Dg.dg 65536 0).length ≤ 30000; rw [show Dg.dg 65536 0 = [] from rfl]; simp) ha1 ha2 (by show -200000 ≤ (0 : Int); omega) (by show (0 : Int) ≤ 200000; omega)
    rw [sign_ref] at h
    exact h
  obtain ⟨s0, rfl, ra⟩ := hv
  obtain ⟨ao, ca, rfl⟩ := ra.shape
  obtain ⟨⟨bs, bn, be⟩, hb⟩ : ∃ b, bare a = b := ⟨_, rfl⟩
  rw [hb] at HC ⊢
  clear ra hb hLa ha1 ha2
  simp only at HC ⊢
  obtain ⟨m, hm⟩ : ∃ m, (Dg.dg 65536 bn).length = m := ⟨_, rfl⟩
  rw [hm] at HC ⊢
  obtain ⟨g, hg⟩ : ∃ g, cmpT a zeroT = g := ⟨_, rfl⟩
  rw [hg] at HC ⊢
  clear hm hg
  have ba := below_alloc w (.cells #[.bool bs, .slice ao m ca, .int .i64 be] 34)
  go_enter Tryz.func8, Tryz.ntmps8
  go_wp2_with fail
  refine (HC.out _ ba).mono ?_
  rintro z w2 ⟨rfl, b2⟩
  have b02 := below_trans ba b2
  go_wp2
  go_ret
  exact ⟨rfl, b02⟩
end Go.Proofs.YtmjhlflemfkflaaGreatDoor

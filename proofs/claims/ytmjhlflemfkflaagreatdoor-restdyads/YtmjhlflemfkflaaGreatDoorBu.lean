/-
  Texts laid together: Bl25, Bl26.
-/
import Derived.Test.YtmjhlflemfkflaaGreatDoorBf
import Derived.Deep.RegionHeld3
import Derived.Deep.Cut
import Derived.Test.YtmjhlflemfkflaaGreatDoorBh
import Derived.Test.YtmjhlflemfkflaaGreatDoorBi
/-
  Balls: the law BallMuls.
-/
namespace Go.Proofs.YtmjhlflemfkflaaGreatDoor
open Go.RowKit

/-- Two numbers of the reference are handed back. -/
def E2Res (w : World) (L H : Trip) (z : Ending) (w' : World) : Prop :=
  ∃ p q, z = .returned (.tuple #[.agg #[.bool L.s, p, .int .i64 L.e], .agg #[.bool H.s, q, .int .i64 H.e]]) ∧ Rd w' .i64 p (Dg.dg 65536 L.n) ∧ Rd w' .i64 q (Dg.dg 65536 H.n) ∧ Below w.heap.size w w'

end Go.Proofs.YtmjhlflemfkflaaGreatDoor
/-
  Balls: the law BallMuls, of whatever it is handed.
-/
namespace Go.Proofs.YtmjhlflemfkflaaGreatDoor
open Go.RowKit

/-- One of four. -/
def sel4 {α : Type} (a b c d : α) : Nat → α
  | 0 => a
  | 1 => b
  | 2 => c
  | _ => d

theorem dcmp_cmp {a b : Trip} (ha : ∃ y, a = bare y) (hb : ∃ y, b = bare y) : signT (bare (dplusT a (minusT b))) = cmpT a b := by
  obtain ⟨y, rfl⟩ := ha
  obtain ⟨z, rfl⟩ := hb
  rw [cmp_bare]
  exact sign_ref y z

/-- What a product's bare form needs. -/
theorem prod_fits {a b : Trip} (ha : bitLen a.n ≤ 38400) (hb : bitLen b.n ≤ 38400) (a1 : -20000 ≤ a.e) (a2 : a.e ≤ 20000) (b1 : -20000 ≤ b.e) (b2 : b.e ≤ 20000) :
    (Dg.dg 65536 (bare (timesT a b)).n).length ≤ 30000 ∧ -200000 ≤ (bare (timesT a b)).e ∧ (bare (timesT a b)).e ≤ 200000 ∧ ∀ n up, 1 ≤ n → (Dg.dg 65536 (dcutT (bare (timesT a b)) n up).n).length ≤ 100000 := by
  have h1 : a.n * b.n < 2 ^ bitLen a.n * 2 ^ bitLen b.n := Nat.mul_lt_mul'' (bitLen_spec a.n).1 (bitLen_spec b.n).1
  rw [← Nat.pow_add] at h1
  have f4 : (Dg.dg 4294967296 (timesT a b).n).length ≤ 2400 := pow_len32 h1 (by omega)
  have g1 := len16_of f4
  have ht := tz_fits _ 2400 f4
  have he : (timesT a b).e = a.e + b.e := rfl
  refine ⟨Nat.le_trans (dg_len_mono 65536 _ _ (by omega) (bare_n_le3 _)) (by omega), ?_, ?_, fun n up hn => ?_⟩
  · unfold bare
    split
    · show -200000 ≤ (0 : Int); omega
    · show -200000 ≤ (timesT a b).e + (tz (timesT a b).n : Int); omega
  · unfold bare
    split
    · show (0 : Int) ≤ 200000; omega
    · show (timesT a b).e + (tz (timesT a b).n : Int) ≤ 200000; omega
  · rw [← cut_bare _ _ _ hn]
    have h1 := cutT_len (b := n) (up := up) f4 (by omega)
    have h2 := len16_of h1
    exact Nat.le_trans (dg_len_mono 65536 _ _ (by omega) (bare_n_le3 _)) (by omega)

theorem prods_fit (A0 A1 B0 B1 : Trip) (ha : bitLen A0.n ≤ 38400) (hb : bitLen A1.n ≤ 38400) (hc : bitLen B0.n ≤ 38400) (hd : bitLen B1.n ≤ 38400) (a1 : -20000 ≤ A0.e) (a2 : A0.e ≤ 20000) (b1 : -20000 ≤ A1.e) (b2 : A1.e ≤ 20000) (c1 : -20000 ≤ B0.e) (c2 : B0.e ≤ 20000) (d1 : -20000 ≤ B1.e) (d2 : B1.e ≤ 20000) (j : Nat) :
    (Dg.dg 65536 (four (fun a b => bare (timesT a b)) (bare A0) (bare A1) (bare B0) (bare B1) j).n).length ≤ 30000 ∧ -200000 ≤ (four (fun a b => bare (timesT a b)) (bare A0) (bare A1) (bare B0) (bare B1) j).e ∧ (four (fun a b => bare (timesT a b)) (bare A0) (bare A1) (bare B0) (bare B1) j).e ≤ 200000 ∧ ∀ n up, 1 ≤ n → (Dg.dg 65536 (dcutT (four (fun a b => bare (timesT a b)) (bare A0) (bare A1) (bare B0) (bare B1) j) n up).n).length ≤ 100000 := by
  rw [← four_times]
  exact four_all timesT A0 A1 B0 B1 (fun T => (Dg.dg 65536 (bare T).n).length ≤ 30000 ∧ -200000 ≤ (bare T).e ∧ (bare T).e ≤ 200000 ∧ ∀ n up, 1 ≤ n → (Dg.dg 65536 (dcutT (bare T) n up).n).length ≤ 100000) (prod_fits ha hc a1 a2 c1 c2) (prod_fits ha hd a1 a2 d1 d2) (prod_fits hb hc b1 b2 c1 c2) (prod_fits hb hd b1 b2 d1 d2) j

end Go.Proofs.YtmjhlflemfkflaaGreatDoor

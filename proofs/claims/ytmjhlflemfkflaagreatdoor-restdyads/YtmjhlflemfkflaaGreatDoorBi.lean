/-
  Texts laid together: Bm2, Be1.
-/
import Derived.Test.YtmjhlflemfkflaaGreatDoorBh
import Derived.Test.YtmjhlflemfkflaaGreatDoorBs
import Derived.Test.YtmjhlflemfkflaaGreatDoorBa
/-
  Balls, without the program: bare numbers and their least one; products; what is joined.
-/
namespace Go.Proofs.YtmjhlflemfkflaaGreatDoor
open Go.RowKit

theorem cmp_bare (a b : Trip) : cmpT (bare a) (bare b) = cmpT a b := by
  have k0 : -((a.e.natAbs + b.e.natAbs : Nat) : Int) ≤ a.e := by omega
  have k1 : -((a.e.natAbs + b.e.natAbs : Nat) : Int) ≤ b.e := by omega
  rw [cmpT_sgn k0 k1, cmpT_sgn (bare_e k0) (bare_e k1), V_bare k0, V_bare k1]

theorem loI_bare (x : Nat → Trip) (i : Nat) : loI (fun j => bare (x j)) i = loI x i := by
  induction i with
  | zero => rfl
  | succ i ih =>
    show (if cmpT (bare (x (i + 1))) (bare (x (loI (fun j => bare (x j)) i))) < 0 then i + 1 else loI (fun j => bare (x j)) i) = if cmpT (x (i + 1)) (x (loI x i)) < 0 then i + 1 else loI x i
    rw [ih, cmp_bare]

theorem hiI_bare (x : Nat → Trip) (i : Nat) : hiI (fun j => bare (x j)) i = hiI x i := by
  induction i with
  | zero => rfl
  | succ i ih =>
    show (if 0 < cmpT (bare (x (i + 1))) (bare (x (hiI (fun j => bare (x j)) i))) then i + 1 else hiI (fun j => bare (x j)) i) = if 0 < cmpT (x (i + 1)) (x (hiI x i)) then i + 1 else hiI x i
    rw [ih, cmp_bare]

theorem loT_bares (x : Nat → Trip) (i : Nat) : loT (fun j => bare (x j)) i = bare (loT x i) := by
  unfold loT
  rw [loI_bare]

theorem hiT_bares (x : Nat → Trip) (i : Nat) : hiT (fun j => bare (x j)) i = bare (hiT x i) := by
  unfold hiT
  rw [hiI_bare]

/-- The reference's four products, in order, are the bare ones of the program's. -/
theorem four_times (A0 A1 B0 B1 : Trip) : (fun j => bare (four timesT A0 A1 B0 B1 j)) = four (fun a b => bare (timesT a b)) (bare A0) (bare A1) (bare B0) (bare B1) := by
  funext j
  match j with
  | 0 => exact bare_times A0 B0
  | 1 => exact bare_times A0 B1
  | 2 => exact bare_times A1 B0
  | _ + 3 => exact bare_times A1 B1

theorem muls_ends (A0 A1 B0 B1 : Trip) : bare (loT (four timesT A0 A1 B0 B1) 3) = loT (four (fun a b => bare (timesT a b)) (bare A0) (bare A1) (bare B0) (bare B1)) 3 ∧ bare (hiT (four timesT A0 A1 B0 B1) 3) = hiT (four (fun a b => bare (timesT a b)) (bare A0) (bare A1) (bare B0) (bare B1)) 3 := by
  rw [← four_times, loT_bares, hiT_bares]
  exact ⟨rfl, rfl⟩

/-- Both ends of twoT balls, in order. -/
def ends4 (A0 A1 B0 B1 : Trip) : Nat → Trip
  | 0 => A0
  | 1 => A1
  | 2 => B0
  | _ => B1

/-- Two numbers, in order. -/
def twoT (A B : Trip) : Nat → Trip
  | 0 => A
  | _ => B

theorem ends4_all (A0 A1 B0 B1 : Trip) (Q : Trip → Prop) (h0 : Q A0) (h1 : Q A1) (h2 : Q B0) (h3 : Q B1) : ∀ j, Q (ends4 A0 A1 B0 B1 j)
  | 0 => h0
  | 1 => h1
  | 2 => h2
  | _ + 3 => h3

theorem twoT_all (A B : Trip) (Q : Trip → Prop) (h0 : Q A) (h1 : Q B) : ∀ j, Q (twoT A B j)
  | 0 => h0
  | _ + 1 => h1

theorem twoT_bare (A B : Trip) : (fun j => bare (twoT A B j)) = twoT (bare A) (bare B) := by
  funext j
  match j with
  | 0 => rfl
  | _ + 1 => rfl

theorem joins_ends (A0 A1 B0 B1 : Trip) (hA : cmpT A0 A1 ≤ 0) (hB : cmpT B0 B1 ≤ 0) : bare (loT (ends4 A0 A1 B0 B1) 3) = loT (twoT (bare A0) (bare B0)) 1 ∧ bare (hiT (ends4 A0 A1 B0 B1) 3) = hiT (twoT (bare A1) (bare B1)) 1 := by
  rw [← twoT_bare, ← twoT_bare, loT_bares, hiT_bares]
  obtain ⟨K, hK⟩ : ∃ K, A0.e.natAbs + A1.e.natAbs + B0.e.natAbs + B1.e.natAbs = K := ⟨_, rfl⟩
  have a0 : -(K : Int) ≤ A0.e := by omega
  have a1 : -(K : Int) ≤ A1.e := by omega
  have b0 : -(K : Int) ≤ B0.e := by omega
  have b1 : -(K : Int) ≤ B1.e := by omega
  have vA := V_of_cmp a0 a1 hA
  have vB := V_of_cmp b0 b1 hB
  have hl := twoT_all A0 B0 (fun T => -(K : Int) ≤ T.e) a0 b0
  have hh := twoT_all A1 B1 (fun T => -(K : Int) ≤ T.e) a1 b1
  have lm := loT_le (K := K) (twoT A0 B0) 1 (fun j _ => hl j)
  have hm := hiT_ge (K := K) (twoT A1 B1) 1 (fun j _ => hh j)
  have l0 := lm 0 (by omega)
  have l1 := lm 1 (by omega)
  have h0 := hm 0 (by omega)
  have h1 := hm 1 (by omega)
  simp only [twoT] at l0 l1 h0 h1
  have he := ends4_all A0 A1 B0 B1 (fun T => -(K : Int) ≤ T.e) a0 a1 b0 b1
  refine ⟨loT_bare (K := K) _ 3 _ (fun j _ => he j) (loT_all _ 1 (fun T => -(K : Int) ≤ T.e) (fun j _ => hl j)) (fun j _ => ?_) ?_, hiT_bare (K := K) _ 3 _ (fun j _ => he j) (hiT_all _ 1 (fun T => -(K : Int) ≤ T.e) (fun j _ => hh j)) (fun j _ => ?_) ?_⟩
  · exact ends4_all A0 A1 B0 B1 (fun T => V K (loT (twoT A0 B0) 1) ≤ V K T) l0 (by omega) l1 (by omega) j
  · obtain ⟨j, hj, e⟩ := loT_in (twoT A0 B0) 1
    rw [e]
    match j, hj with
    | 0, _ => exact ⟨0, by omega, rfl⟩
    | 1, _ => exact ⟨2, by omega, rfl⟩
  · exact ends4_all A0 A1 B0 B1 (fun T => V K T ≤ V K (hiT (twoT A1 B1) 1)) (by omega) h0 (by omega) h1 j
  · obtain ⟨j, hj, e⟩ := hiT_in (twoT A1 B1) 1
    rw [e]
    match j, hj with
    | 0, _ => exact ⟨1, by omega, rfl⟩
    | 1, _ => exact ⟨3, by omega, rfl⟩
end Go.Proofs.YtmjhlflemfkflaaGreatDoor
/-
  Balls: contract of the reference's Ends.
-/
namespace Go.Proofs.YtmjhlflemfkflaaGreatDoor
open Go.RowKit

/-- Where the loop of Ends stands: both ends so far, and the results' blocks. -/
def EndsR (w : World) (m : Nat) (x : Nat → Trip) (ao : Nat → Option Addr) (ca : Nat → Nat) (p q r1 r2 : Nat) (iv : Value) (wr : World) : Prop :=
  ∃ i : Nat, i + 1 ≤ m ∧ iv = .int .i64 ((i : Int) + 1) ∧ Below w.heap.size w wr ∧
    Loc wr p (.bool (x (loI x i)).s) (.slice (ao (loI x i)) (Dg.dg 65536 (x (loI x i)).n).length (ca (loI x i))) (.int .i64 (x (loI x i)).e) ∧
    Loc wr q (.bool (x (hiI x i)).s) (.slice (ao (hiI x i)) (Dg.dg 65536 (x (hiI x i)).n).length (ca (hiI x i))) (.int .i64 (x (hiI x i)).e) ∧
    Loc wr r1 (.bool false) (.slice none 0 0) (.int .i64 0) ∧ Loc wr r2 (.bool false) (.slice none 0 0) (.int .i64 0)

/-- Both ends of some numbers are handed back. -/
def EARes (w : World) (x : Nat → Trip) (ao : Nat → Option Addr) (ca : Nat → Nat) (l h : Nat) (z : Ending) (w' : World) : Prop :=
  z = .returned (.tuple #[.agg #[.bool (x l).s, .slice (ao l) (Dg.dg 65536 (x l).n).length (ca l), .int .i64 (x l).e], .agg #[.bool (x h).s, .slice (ao h) (Dg.dg 65536 (x h).n).length (ca h), .int .i64 (x h).e]]) ∧ Below w.heap.size w w'

end Go.Proofs.YtmjhlflemfkflaaGreatDoor

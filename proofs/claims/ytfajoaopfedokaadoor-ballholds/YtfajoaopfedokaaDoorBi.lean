/-
  Texts laid together: Bm2, Be1.
-/
import Derived.Test.YtfajoaopfedokaaDoorBh
import Derived.Test.YtfajoaopfedokaaDoorBs
import Derived.Test.YtfajoaopfedokaaDoorBa
/-
  Balls, without the program: bare numbers and their least one; products; what is joined.
-/
namespace Go.Proofs.YtfajoaopfedokaaDoor
open Go.RowKit

theorem cmp_bare (a b : Trip) : cmpT (bare a) (bare b) = cmpT a b := by
  have k0 : -((a.e.natAbs + b.e.natAbs : Nat) : Int) ≤ a.e := by omega
  have k1 : -((a.e.natAbs + b.e.natAbs : Nat) : Int) ≤ b.e := by omega
  rw [cmpT_sgn k0 k1, cmpT_sgn (bare_e k0) (bare_e k1), V_bare k0, V_bare k1]

theorem loI_bare (x : Nat → Trip) (i : Nat) : loI (fun j => bare (x j)) i = loI x i := by
  induction i with
  | zero => rfl
  | succ i ih =>
    show (if cmpT (bare (x (i + 1))) (bare (x (loI (fun j => bare (x j)) i))) < 0 then i + 1 else loI (fun j => bare (x j)) i) = if cmpT (x (i + 1)) (x (loI x i)) < 0 then i + 1 else loI x i
    rw [ih, cmp_bare]

theorem hiI_bare (x : Nat → Trip) (i : Nat) : hiI (fun j => bare (x j)) i = hiI x i := by
  induction i with
  | zero => rfl
  | succ i ih =>
    show (if 0 < cmpT (bare (x (i + 1))) (bare (x (hiI (fun j => bare (x j)) i))) then i + 1 else hiI (fun j => bare (x j)) i) = if 0 < cmpT (x (i + 1)) (x (hiI x i)) then i + 1 else hiI x i
    rw [ih, cmp_bare]

theorem loT_bares (x : Nat → Trip) (i : Nat) : loT (fun j => bare (x j)) i = bare (loT x i) := by
  unfold loT
  rw [loI_bare]

theorem hiT_bares (x : Nat → Trip) (i : Nat) : hiT (fun j => bare (x j)) i = bare (hiT x i) := by
  unfold hiT
  rw [hiI_bare]

/-- The reference's four products, in order, are the bare ones of the program's. -/
theorem four_times (A0 A1 B0 B1 : Trip) : (fun j => bare (four timesT A0 A1 B0 B1 j)) = four (fun a b => bare (timesT a b)) (bare A0) (bare A1) (bare B0) (bare B1) := by
  funext j
  match j with
  | 0 => exact bare_times A0 B0
  | 1 => exact bare_times A0 B1
  | 2 => exact bare_times A1 B0
  | _ + 3 => exact bare_times A1 B1

theorem muls_ends (A0 A1 B0 B1 : Trip) : bare (loT (four timesT A0 A1 B0 B1) 3) = loT (four (fun a b => bare (timesT a b)) (bare A0) (bare A1) (bare B0) (bare B1)) 3 ∧ bare (hiT (four timesT A0 A1 B0 B1) 3) = hiT (four (fun a b => bare (timesT a b)) (bare A0) (bare A1) (bare B0) (bare B1)) 3 := by
  rw [← four_times, loT_bares, hiT_bares]
  exact ⟨rfl, rfl⟩

/-- Both ends of twoT balls, in order. -/
def ends4 (A0 A1 B0 B1 : Trip) : Nat → Trip
  | 0 => A0
  | 1 => A1
  | 2 => B0
  | _ => B1

/-- Two numbers, in order. -/
def twoT (A B : Trip) : Nat → Trip
  | 0 => A
  | _ => B

theorem ends4_all (A0 A1 B0 B1 : Trip) (Q : Trip → Prop) (h0 : Q A0) (h1 : Q A1) (h2 : Q B0) (h3 : Q B1) : ∀ j, Q (ends4 A0 A1 B0 B1 j)
  | 0 => h0
  | 1 => h1
  | 2 => h2
  | _ + 3 => h3

theorem twoT_all (A B : Trip) (Q : Trip → Prop) (h0 : Q A) (h1 : Q B) : ∀ j, Q (twoT A B j)
  | 0 => h0
  | _ + 1 => h1

theorem twoT_bare (A B : Trip) : (fun j => bare (twoT A B j)) = twoT (bare A) (bare B) := by
  funext j
  match j with
  | 0 => rfl
  | _ + 1 => rfl

theorem joins_ends (A0 A1 B0 B1 : Trip) (hA : cmpT A0 A1 ≤ 0) (hB : cmpT B0 B1 ≤ 0) : bare (loT (ends4 A0 A1 B0 B1) 3) = loT (twoT (bare A0) (bare B0)) 1 ∧ bare (hiT (ends4 A0 A1 B0 B1) 3) = hiT (twoT (bare A1) (bare B1)) 1 := by
  rw [← twoT_bare, ← twoT_bare, loT_bares, hiT_bares]
  obtain ⟨K, hK⟩ : ∃ K, A0.e.natAbs + A1.e.natAbs + B0.e.natAbs + B1.e.natAbs = K := ⟨_, rfl⟩
  have a0 : -(K : Int) ≤ A0.e := by omega
  have a1 : -(K : Int) ≤ A1.e := by omega
  have b0 : -(K : Int) ≤ B0.e := by omega
  have b1 : -(K : Int) ≤ B1.e := by omega
  have vA := V_of_cmp a0 a1 hA
  have vB := V_of_cmp b0 b1 hB
  have hl := twoT_all A0 B0 (fun T => -(K : Int) ≤ T.e) a0 b0
  have hh := twoT_all A1 B1 (fun T => -(K : Int) ≤ T.e) a1 b1
  have lm := loT_le (K := K) (twoT A0 B0) 1 (fun j _ => hl j)
  have hm := hiT_ge (K := K) (twoT A1 B1) 1 (fun j _ => hh j)
  have l0 := lm 0 (by omega)
  have l1 := lm 1 (by omega)
  have h0 := hm 0 (by omega)
  have h1 := hm 1 (by omega)
  simp only [twoT] at l0 l1 h0 h1
  have he := ends4_all A0 A1 B0 B1 (fun T => -(K : Int) ≤ T.e) a0 a1 b0 b1
  refine ⟨loT_bare (K := K) _ 3 _ (fun j _ => he j) (loT_all _ 1 (fun T => -(K : Int) ≤ T.e) (fun j _ => hl j)) (fun j _ => ?_) ?_, hiT_bare (K := K) _ 3 _ (fun j _ => he j) (hiT_all _ 1 (fun T => -(K : Int) ≤ T.e) (fun j _ => hh j)) (fun j _ => ?_) ?_⟩
  · exact ends4_all A0 A1 B0 B1 (fun T => V K (loT (twoT A0 B0) 1) ≤ V K T) l0 (by omega) l1 (by omega) j
  · obtain ⟨j, hj, e⟩ := loT_in (twoT A0 B0) 1
    rw [e]
    match j, hj with
    | 0, _ => exact ⟨0, by omega, rfl⟩
    | 1, _ => exact ⟨2, by omega, rfl⟩
  · exact ends4_all A0 A1 B0 B1 (fun T => V K T ≤ V K (hiT (twoT A1 B1) 1)) (by omega) h0 (by omega) h1 j
  · obtain ⟨j, hj, e⟩ := hiT_in (twoT A1 B1) 1
    rw [e]
    match j, hj with
    | 0, _ => exact ⟨1, by omega, rfl⟩
    | 1, _ => exact ⟨3, by omega, rfl⟩
end Go.Proofs.YtfajoaopfedokaaDoor
/-
  Balls: contract of the reference's Ends.
-/
namespace Go.Proofs.YtfajoaopfedokaaDoor
open Go.RowKit

/-- Where the loop of Ends stands: both ends so far, and the results' blocks. -/
def EndsR (w : World) (m : Nat) (x : Nat → Trip) (ao : Nat → Option Addr) (ca : Nat → Nat) (p q r1 r2 : Nat) (iv : Value) (wr : World) : Prop :=
  ∃ i : Nat, i + 1 ≤ m ∧ iv = .int .i64 ((i : Int) + 1) ∧ Below w.heap.size w wr ∧
    Loc wr p (.bool (x (loI x i)).s) (.slice (ao (loI x i)) (Dg.dg 65536 (x (loI x i)).n).length (ca (loI x i))) (.int .i64 (x (loI x i)).e) ∧
    Loc wr q (.bool (x (hiI x i)).s) (.slice (ao (hiI x i)) (Dg.dg 65536 (x (hiI x i)).n).length (ca (hiI x i))) (.int .i64 (x (hiI x i)).e) ∧
    Loc wr r1 (.bool false) (.slice none 0 0) (.int .i64 0) ∧ Loc wr r2 (.bool false) (.slice none 0 0) (.int .i64 0)

/-- Both ends of some numbers are handed back. -/
def EARes (w : World) (x : Nat → Trip) (ao : Nat → Option Addr) (ca : Nat → Nat) (l h : Nat) (z : Ending) (w' : World) : Prop :=
  z = .returned (.tuple #[.agg #[.bool (x l).s, .slice (ao l) (Dg.dg 65536 (x l).n).length (ca l), .int .i64 (x l).e], .agg #[.bool (x h).s, .slice (ao h) (Dg.dg 65536 (x h).n).length (ca h), .int .i64 (x h).e]]) ∧ Below w.heap.size w w'

set_option maxRecDepth 100000 in
set_option maxHeartbeats 1600000 in
theorem refEnds_any (b : Nat) (m : Nat) (x : Nat → Trip) (ao : Nat → Option Addr) (ca : Nat → Nat) (w : World) (hm : 2 ≤ m) (hm2 : m ≤ 4) (hb : b < w.heap.size)
    (h0 : ∀ j, j < m → w.cell? ⟨b, 3 * j, none⟩ = some (.bool (x j).s)) (h1 : ∀ j, j < m → w.cell? ⟨b, 3 * j + 1, none⟩ = some (.slice (ao j) (Dg.dg 65536 (x j).n).length (ca j))) (h2 : ∀ j, j < m → w.cell? ⟨b, 3 * j + 2, none⟩ = some (.int .i64 (x j).e))
    (HC : ∀ j k w1, j < m → k < m → Below w.heap.size w w1 → Calls Tryd.prog 22 #[.agg #[.bool (x j).s, .slice (ao j) (Dg.dg 65536 (x j).n).length (ca j), .int .i64 (x j).e], .agg #[.bool (x k).s, .slice (ao k) (Dg.dg 65536 (x k).n).length (ca k), .int .i64 (x k).e]] w1 fun z w' => z = .returned (.int .i64 (cmpT (x j) (x k))) ∧ Below w1.heap.size w1 w') :
    Calls Tryd.prog 42 #[.slice (some ⟨b, 0, none⟩) m m] w (EARes w x ao ca (loI x (m - 1)) (hiI x (m - 1))) := by
  have c00 : w.cell? ⟨b, 0, none⟩ = some (.bool (x 0).s) := h0 0 (by omega)
  have c01 : w.cell? ⟨b, 1, none⟩ = some (.slice (ao 0) (Dg.dg 65536 (x 0).n).length (ca 0)) := h1 0 (by omega)
  have c02 : w.cell? ⟨b, 2, none⟩ = some (.int .i64 (x 0).e) := h2 0 (by omega)
  have HH0 : Hid _ := h0
  have HH1 : Hid _ := h1
  have HH2 : Hid _ := h2
  have HHC : Hid _ := HC
  clear h0 h1 h2 HC
  obtain ⟨s, hs⟩ : ∃ s, (x 0).s = s := ⟨_, rfl⟩
  obtain ⟨a0, ha0⟩ : ∃ s, ao 0 = s := ⟨_, rfl⟩
  obtain ⟨c0, hc0⟩ : ∃ s, ca 0 = s := ⟨_, rfl⟩
  obtain ⟨la, hla⟩ : ∃ s, (Dg.dg 65536 (x 0).n).length = s := ⟨_, rfl⟩
  obtain ⟨e, he⟩ : ∃ s, (x 0).e = s := ⟨_, rfl⟩
  rw [hs] at c00
  rw [ha0, hc0, hla] at c01
  rw [he] at c02
  have hm' : (0 : Int) < (m : Int) := by omega
  have bA := below_trans (below_alloc w (.cells #[.bool false, .slice none 0 0, .int .i64 0] 33)) (below_alloc _ (.cells #[.bool false, .slice none 0 0, .int .i64 0] 33))
  have k1 := (loc_new w (.bool false) (.slice none 0 0) (.int .i64 0) 33).later (below_alloc _ (.cells #[.bool false, .slice none 0 0, .int .i64 0] 33))
  have k2 := loc_new (w.alloc (.cells #[.bool false, .slice none 0 0, .int .i64 0] 33)) (.bool false) (.slice none 0 0) (.int .i64 0) 33
  simp only [World.size_alloc] at k2
  have hsz : w.heap.size + 1 < ((w.alloc (.cells #[.bool false, .slice none 0 0, .int .i64 0] 33)).alloc (.cells #[.bool false, .slice none 0 0, .int .i64 0] 33)).heap.size := k2.1
  go_enter Tryd.func42, Tryd.ntmps42
  go_wp2_with fail
  generalize ((w.alloc (.cells #[.bool false, .slice none 0 0, .int .i64 0] 33)).alloc (.cells #[.bool false, .slice none 0 0, .int .i64 0] 33)) = W0 at bA k1 k2 hsz ⊢
  have bZ := below_trans bA (below_alloc W0 (.cells #[.bool false, .slice none 0 0, .int .i64 0] 33))
  have bV := below_trans bA (below_alloc W0 (.cells #[.bool s, .slice a0 la c0, .int .i64 e] 33))
  have bZZ := below_trans bZ (below_alloc _ (.cells #[.bool false, .slice none 0 0, .int .i64 0] 33))
  have bZV := below_trans bZ (below_alloc _ (.cells #[.bool s, .slice a0 la c0, .int .i64 e] 33))
  have bVZ := below_trans bV (below_alloc _ (.cells #[.bool false, .slice none 0 0, .int .i64 0] 33))
  have bVV := below_trans bV (below_alloc _ (.cells #[.bool s, .slice a0 la c0, .int .i64 e] 33))
  have cE0 := cell_later (bA.drew) c00
  have cE1 := cell_later (bA.drew) c01
  have cE2 := cell_later (bA.drew) c02
  have cZ0 := cell_later (bZ.drew) c00
  have cZ1 := cell_later (bZ.drew) c01
  have cZ2 := cell_later (bZ.drew) c02
  have cV0 := cell_later (bV.drew) c00
  have cV1 := cell_later (bV.drew) c01
  have cV2 := cell_later (bV.drew) c02
  have cZZ0 := cell_later (bZZ.drew) c00
  have cZZ1 := cell_later (bZZ.drew) c01
  have cZZ2 := cell_later (bZZ.drew) c02
  have cZV0 := cell_later (bZV.drew) c00
  have cZV1 := cell_later (bZV.drew) c01
  have cZV2 := cell_later (bZV.drew) c02
  have cVZ0 := cell_later (bVZ.drew) c00
  have cVZ1 := cell_later (bVZ.drew) c01
  have cVZ2 := cell_later (bVZ.drew) c02
  have cVV0 := cell_later (bVV.drew) c00
  have cVV1 := cell_later (bVV.drew) c01
  have cVV2 := cell_later (bVV.drew) c02
  have n1 : b ≠ W0.heap.size := by omega
  have n2 : b ≠ W0.heap.size + 1 := by omega
  have p1 := (loc_new W0 (.bool s) (.slice a0 la c0) (.int .i64 e) 33).later (below_alloc _ (.cells #[.bool s, .slice a0 la c0, .int .i64 e] 33))
  have q1 := loc_new (W0.alloc (.cells #[.bool s, .slice a0 la c0, .int .i64 e] 33)) (.bool s) (.slice a0 la c0) (.int .i64 e) 33
  simp only [World.size_alloc] at q1
  have k1 := (k1.later (below_alloc W0 (.cells #[.bool s, .slice a0 la c0, .int .i64 e] 33))).later (below_alloc _ (.cells #[.bool s, .slice a0 la c0, .int .i64 e] 33))
  have k2 := (k2.later (below_alloc W0 (.cells #[.bool s, .slice a0 la c0, .int .i64 e] 33))).later (below_alloc _ (.cells #[.bool s, .slice a0 la c0, .int .i64 e] 33))
  have LS : ∀ P Q W, Below w.heap.size w W → Loc W P (.bool s) (.slice a0 la c0) (.int .i64 e) → Loc W Q (.bool s) (.slice a0 la c0) (.int .i64 e) → Loc W w.heap.size (.bool false) (.slice none 0 0) (.int .i64 0) → Loc W (w.heap.size + 1) (.bool false) (.slice none 0 0) (.int .i64 0) → EndsR w m x ao ca P Q w.heap.size (w.heap.size + 1) (.int .i64 1) W := by
    intro P Q W hB hP hQ hK hK2
    refine ⟨0, by omega, rfl, hB, ?_, ?_, hK, hK2⟩
    · show Loc W P (.bool (x 0).s) (.slice (ao 0) (Dg.dg 65536 (x 0).n).length (ca 0)) (.int .i64 (x 0).e)
      rw [hs, ha0, hc0, hla, he]; exact hP
    · show Loc W Q (.bool (x 0).s) (.slice (ao 0) (Dg.dg 65536 (x 0).n).length (ca 0)) (.int .i64 (x 0).e)
      rw [hs, ha0, hc0, hla, he]; exact hQ
  have LS' : Hid _ := LS
  clear LS hs ha0 hc0 hla he
  go_region
  all_goals go_goals
  · obtain ⟨W, hW⟩ : ∃ W, ((W0.alloc (.cells #[.bool s, .slice a0 la c0, .int .i64 e] 33)).alloc (.cells #[.bool s, .slice a0 la c0, .int .i64 e] 33)).drew = W := ⟨_, rfl⟩
    have bW : Below w.heap.size w W := by rw [← hW]; exact bVV.drew
    have kW := k1.later ((Below.refl _ _).drew)
    have kW2 := k2.later ((Below.refl _ _).drew)
    have pW := p1.later ((Below.refl _ _).drew)
    have qW := q1.later ((Below.refl _ _).drew)
    rw [hW] at kW kW2 pW qW ⊢
    clear k1 k2 p1 q1 hW n1 n2 cE0 cE1 cE2 cZ0 cZ1 cZ2 cV0 cV1 cV2 cZZ0 cZZ1 cZZ2 cZV0 cZV1 cZV2 cVZ0 cVZ1 cVZ2 cVV0 cVV1 cVV2 bZ bV bZZ bZV bVZ bVV bA
    obtain ⟨P, hPe⟩ : ∃ P, W0.heap.size = P := ⟨_, rfl⟩
    obtain ⟨Q, hQe⟩ : ∃ Q, W0.heap.size + 1 = Q := ⟨_, rfl⟩
    rw [hQe] at qW
    rw [hPe] at pW
    rw [hQe, hPe]
    have hq : Q ≠ P := by omega
    have hp0 : P ≠ w.heap.size := by omega
    have hq0 : Q ≠ w.heap.size := by omega
    have hp2 : P ≠ w.heap.size + 1 := by omega
    have hq2 : Q ≠ w.heap.size + 1 := by omega
    have hp1 : w.heap.size ≤ P := by omega
    have hq1 : w.heap.size ≤ Q := by omega
    clear hPe hQe hsz
    have L0 := LS'.out P Q W bW pW qW kW kW2
    clear pW qW kW kW2 bW c00 c01 c02 LS'
    go_wp2
    go_loopw [6] (EndsR w m x ao ca P Q w.heap.size (w.heap.size + 1)) (fun iv _ => m - (intOf iv).toNat)
    case atStart => exact L0
    case round =>
      clear L0
      obtain ⟨i, hi, rfl, bel, lp, lq, lk, lk2⟩ := hrel
      by_cases hlt : i + 1 < m
      · have hi1 : (0 : Int) ≤ (i : Int) + 1 := by omega
        have hi2 : (i : Int) + 1 < (m : Int) := by omega
        have bd : Below wr.heap.size wr wr.drew := (Below.refl _ _).drew
        have bel0 := below_trans bel bd
        have D0 : Hid (∀ W, Below w.heap.size w W → W.cell? ⟨b, (i + 1) * 3, none⟩ = some (.bool (x (i + 1)).s) ∧ W.cell? ⟨b, (i + 1) * 3 + 1, none⟩ = some (.slice (ao (i + 1)) (Dg.dg 65536 (x (i + 1)).n).length (ca (i + 1))) ∧ W.cell? ⟨b, (i + 1) * 3 + 2, none⟩ = some (.int .i64 (x (i + 1)).e)) := fun W hB => by
          rw [show (i + 1) * 3 = 3 * (i + 1) by omega]
          exact ⟨cell_later hB (HH0.out (i + 1) hlt), cell_later hB (HH1.out (i + 1) hlt), cell_later hB (HH2.out (i + 1) hlt)⟩
        have hl1 := loI_le x i
        have hl2 := hiI_le x i
        have lp1 := lp.later bd
        have lq1 := lq.later bd
        have lk1 := lk.later bd
        have lm1 := lk2.later bd
        obtain ⟨d0, d1, d2⟩ := D0.out _ bel0
        obtain ⟨-, ⟨p0, p1, p2⟩, -⟩ := id lp1
        clear bel lp lq lk lk2 bd
        go_wp2_with fail
        go_region_held3 (fun wq => (wq.cell? ⟨b, (i + 1) * 3, none⟩ = some (.bool (x (i + 1)).s) ∧ wq.cell? ⟨b, (i + 1) * 3 + 1, none⟩ = some (.slice (ao (i + 1)) (Dg.dg 65536 (x (i + 1)).n).length (ca (i + 1))) ∧ wq.cell? ⟨b, (i + 1) * 3 + 2, none⟩ = some (.int .i64 (x (i + 1)).e)) ∧ wq.cell? ⟨P, 0, none⟩ = some (.bool (x (loI x i)).s) ∧ wq.cell? ⟨P, 1, none⟩ = some (.slice (ao (loI x i)) (Dg.dg 65536 (x (loI x i)).n).length (ca (loI x i))) ∧ wq.cell? ⟨P, 2, none⟩ = some (.int .i64 (x (loI x i)).e)) (go_keep) (first
          | (go_at_call 22; have hgd := bel0; clear hgd; refine (HHC.out (i + 1) (loI x i) _ hlt (by omega) bel0).mono ?_; rintro z w2 ⟨rfl, b2⟩; have bel2 := below_trans bel0 b2; have lp2 := lp1.later b2; have lq2 := lq1.later b2; have lk2 := lk1.later b2; have lm2 := lm1.later b2; obtain ⟨e0, e1, e2⟩ := D0.out _ bel2; obtain ⟨-, ⟨g0, g1, g2⟩, -⟩ := id lp2; clear bel0))
        by_cases hc : cmpT (x (i + 1)) (x (loI x i)) < 0
        · have hI := loI_pos hc
          have hlo : loI x (i + 1) ≤ i + 1 := loI_le x (i + 1)
          generalize cmpT (x (i + 1)) (x (loI x i)) = c1 at hc ⊢
          obtain ⟨hpl, ⟨p0, p1, p2⟩, f0, f1, f2⟩ := id lp2
          have lp3 := loc_set lp2 (.bool (x (i + 1)).s) (.slice (ao (i + 1)) (Dg.dg 65536 (x (i + 1)).n).length (ca (i + 1))) (.int .i64 (x (i + 1)).e)
          have lq3 := lq2.apart (c := P) (by omega) (.bool (x (i + 1)).s) (.slice (ao (i + 1)) (Dg.dg 65536 (x (i + 1)).n).length (ca (i + 1))) (.int .i64 (x (i + 1)).e)
          have lk3 := lk2.apart (c := P) (by omega) (.bool (x (i + 1)).s) (.slice (ao (i + 1)) (Dg.dg 65536 (x (i + 1)).n).length (ca (i + 1))) (.int .i64 (x (i + 1)).e)
          have lm3 := lm2.apart (c := P) (by omega) (.bool (x (i + 1)).s) (.slice (ao (i + 1)) (Dg.dg 65536 (x (i + 1)).n).length (ca (i + 1))) (.int .i64 (x (i + 1)).e)
          have bel3 := below_set3 bel2 (b := P) (by omega) (.bool (x (i + 1)).s) (.slice (ao (i + 1)) (Dg.dg 65536 (x (i + 1)).n).length (ca (i + 1))) (.int .i64 (x (i + 1)).e)
          clear lp2 lq2 lk2 lm2
          go_wp2_with fail
          generalize (((w2.setCell ⟨P, 0, none⟩ (.bool (x (i + 1)).s)).setCell ⟨P, 1, none⟩ (.slice (ao (i + 1)) (Dg.dg 65536 (x (i + 1)).n).length (ca (i + 1)))).setCell ⟨P, 2, none⟩ (.int .i64 (x (i + 1)).e)) = W3 at lp3 lq3 lk3 lm3 bel3 ⊢
          have bd : Below W3.heap.size W3 W3.drew := (Below.refl _ _).drew
          have bel4 := below_trans bel3 bd
          have lp4 := lp3.later bd
          have lq4 := lq3.later bd
          have lk4 := lk3.later bd
          have lm4 := lm3.later bd
          obtain ⟨d0, d1, d2⟩ := D0.out _ bel4
          obtain ⟨-, ⟨q0, q1, q2⟩, -⟩ := id lq4
          clear lp3 lq3 lk3 lm3 bel3 bd
          go_wp2_with fail
          go_region_held3 (fun wq => (wq.cell? ⟨b, (i + 1) * 3, none⟩ = some (.bool (x (i + 1)).s) ∧ wq.cell? ⟨b, (i + 1) * 3 + 1, none⟩ = some (.slice (ao (i + 1)) (Dg.dg 65536 (x (i + 1)).n).length (ca (i + 1))) ∧ wq.cell? ⟨b, (i + 1) * 3 + 2, none⟩ = some (.int .i64 (x (i + 1)).e)) ∧ wq.cell? ⟨Q, 0, none⟩ = some (.bool (x (hiI x i)).s) ∧ wq.cell? ⟨Q, 1, none⟩ = some (.slice (ao (hiI x i)) (Dg.dg 65536 (x (hiI x i)).n).length (ca (hiI x i))) ∧ wq.cell? ⟨Q, 2, none⟩ = some (.int .i64 (x (hiI x i)).e)) (go_keep) (first
            | (go_at_call 22; have hgd := bel4; clear hgd; refine (HHC.out (i + 1) (hiI x i) _ hlt (by omega) bel4).mono ?_; rintro z w5 ⟨rfl, b5⟩; have bel5 := below_trans bel4 b5; have lp5 := lp4.later b5; have lq5 := lq4.later b5; have lk5 := lk4.later b5; have lm5 := lm4.later b5; obtain ⟨t0, t1, t2⟩ := D0.out _ bel5; obtain ⟨-, ⟨g0, g1, g2⟩, -⟩ := id lq5; clear bel4))
          by_cases hd : 0 < cmpT (x (i + 1)) (x (hiI x i))
          · have hJ := hiI_pos hd
            generalize cmpT (x (i + 1)) (x (hiI x i)) = c2 at hd ⊢
            obtain ⟨hql, ⟨q0, q1, q2⟩, h0, h1, h2⟩ := id lq5
            have lq6 := loc_set lq5 (.bool (x (i + 1)).s) (.slice (ao (i + 1)) (Dg.dg 65536 (x (i + 1)).n).length (ca (i + 1))) (.int .i64 (x (i + 1)).e)
            have lp6 := lp5.apart (c := Q) (by omega) (.bool (x (i + 1)).s) (.slice (ao (i + 1)) (Dg.dg 65536 (x (i + 1)).n).length (ca (i + 1))) (.int .i64 (x (i + 1)).e)
            have lk6 := lk5.apart (c := Q) (by omega) (.bool (x (i + 1)).s) (.slice (ao (i + 1)) (Dg.dg 65536 (x (i + 1)).n).length (ca (i + 1))) (.int .i64 (x (i + 1)).e)
            have lm6 := lm5.apart (c := Q) (by omega) (.bool (x (i + 1)).s) (.slice (ao (i + 1)) (Dg.dg 65536 (x (i + 1)).n).length (ca (i + 1))) (.int .i64 (x (i + 1)).e)
            have bel6 := below_set3 bel5 (b := Q) (by omega) (.bool (x (i + 1)).s) (.slice (ao (i + 1)) (Dg.dg 65536 (x (i + 1)).n).length (ca (i + 1))) (.int .i64 (x (i + 1)).e)
            clear lp5 lq5 lk5 lm5 bel5
            go_wp2
            go_roundw
            case rel => exact ⟨i + 1, by omega, by go_num, bel6, by rw [hI]; exact lp6, by rw [hJ]; exact lq6, lk6, lm6⟩
            case measure => simp [intOf]; omega
          · have hJ := hiI_neg hd
            generalize cmpT (x (i + 1)) (x (hiI x i)) = c2 at hd ⊢
            go_wp2
            go_roundw
            case rel => exact ⟨i + 1, by omega, by go_num, bel5, by rw [hI]; exact lp5, by rw [hJ]; exact lq5, lk5, lm5⟩
            case measure => simp [intOf]; omega
        · have hI := loI_neg hc
          generalize cmpT (x (i + 1)) (x (loI x i)) = c1 at hc ⊢
          have lp3 := lp2
          have lq3 := lq2
          have lk3 := lk2
          have lm3 := lm2
          have bel3 := bel2
          go_wp2_with fail
          generalize hW3 : w2 = W3 at lp3 lq3 lk3 lm3 bel3 ⊢
          clear lp2 lq2 lk2 lm2 bel2 e0 e1 e2 g0 g1 g2 b2
          have bd : Below W3.heap.size W3 W3.drew := (Below.refl _ _).drew
          have bel4 := below_trans bel3 bd
          have lp4 := lp3.later bd
          have lq4 := lq3.later bd
          have lk4 := lk3.later bd
          have lm4 := lm3.later bd
          obtain ⟨d0, d1, d2⟩ := D0.out _ bel4
          obtain ⟨-, ⟨q0, q1, q2⟩, -⟩ := id lq4
          clear lp3 lq3 lk3 lm3 bel3 bd
          go_wp2_with fail
          go_region_held3 (fun wq => (wq.cell? ⟨b, (i + 1) * 3, none⟩ = some (.bool (x (i + 1)).s) ∧ wq.cell? ⟨b, (i + 1) * 3 + 1, none⟩ = some (.slice (ao (i + 1)) (Dg.dg 65536 (x (i + 1)).n).length (ca (i + 1))) ∧ wq.cell? ⟨b, (i + 1) * 3 + 2, none⟩ = some (.int .i64 (x (i + 1)).e)) ∧ wq.cell? ⟨Q, 0, none⟩ = some (.bool (x (hiI x i)).s) ∧ wq.cell? ⟨Q, 1, none⟩ = some (.slice (ao (hiI x i)) (Dg.dg 65536 (x (hiI x i)).n).length (ca (hiI x i))) ∧ wq.cell? ⟨Q, 2, none⟩ = some (.int .i64 (x (hiI x i)).e)) (go_keep) (first
            | (go_at_call 22; have hgd := bel4; clear hgd; refine (HHC.out (i + 1) (hiI x i) _ hlt (by omega) bel4).mono ?_; rintro z w5 ⟨rfl, b5⟩; have bel5 := below_trans bel4 b5; have lp5 := lp4.later b5; have lq5 := lq4.later b5; have lk5 := lk4.later b5; have lm5 := lm4.later b5; obtain ⟨t0, t1, t2⟩ := D0.out _ bel5; obtain ⟨-, ⟨g0, g1, g2⟩, -⟩ := id lq5; clear bel4))
          by_cases hd : 0 < cmpT (x (i + 1)) (x (hiI x i))
          · have hJ := hiI_pos hd
            generalize cmpT (x (i + 1)) (x (hiI x i)) = c2 at hd ⊢
            obtain ⟨hql, ⟨q0, q1, q2⟩, h0, h1, h2⟩ := id lq5
            have lq6 := loc_set lq5 (.bool (x (i + 1)).s) (.slice (ao (i + 1)) (Dg.dg 65536 (x (i + 1)).n).length (ca (i + 1))) (.int .i64 (x (i + 1)).e)
            have lp6 := lp5.apart (c := Q) (by omega) (.bool (x (i + 1)).s) (.slice (ao (i + 1)) (Dg.dg 65536 (x (i + 1)).n).length (ca (i + 1))) (.int .i64 (x (i + 1)).e)
            have lk6 := lk5.apart (c := Q) (by omega) (.bool (x (i + 1)).s) (.slice (ao (i + 1)) (Dg.dg 65536 (x (i + 1)).n).length (ca (i + 1))) (.int .i64 (x (i + 1)).e)
            have lm6 := lm5.apart (c := Q) (by omega) (.bool (x (i + 1)).s) (.slice (ao (i + 1)) (Dg.dg 65536 (x (i + 1)).n).length (ca (i + 1))) (.int .i64 (x (i + 1)).e)
            have bel6 := below_set3 bel5 (b := Q) (by omega) (.bool (x (i + 1)).s) (.slice (ao (i + 1)) (Dg.dg 65536 (x (i + 1)).n).length (ca (i + 1))) (.int .i64 (x (i + 1)).e)
            clear lp5 lq5 lk5 lm5 bel5
            go_wp2
            go_roundw
            case rel => exact ⟨i + 1, by omega, by go_num, bel6, by rw [hI]; exact lp6, by rw [hJ]; exact lq6, lk6, lm6⟩
            case measure => simp [intOf]; omega
          · have hJ := hiI_neg hd
            generalize cmpT (x (i + 1)) (x (hiI x i)) = c2 at hd ⊢
            go_wp2
            go_roundw
            case rel => exact ⟨i + 1, by omega, by go_num, bel5, by rw [hI]; exact lp5, by rw [hJ]; exact lq5, lk5, lm5⟩
            case measure => simp [intOf]; omega
      · have hmi : m - 1 = i := by omega
        rw [hmi]
        have lk3 := loc_set lk (.bool (x (loI x i)).s) (.slice (ao (loI x i)) (Dg.dg 65536 (x (loI x i)).n).length (ca (loI x i))) (.int .i64 (x (loI x i)).e)
        have lq3 := lq.apart (c := w.heap.size) (by omega) (.bool (x (loI x i)).s) (.slice (ao (loI x i)) (Dg.dg 65536 (x (loI x i)).n).length (ca (loI x i))) (.int .i64 (x (loI x i)).e)
        have lm3 := lk2.apart (c := w.heap.size) (by omega) (.bool (x (loI x i)).s) (.slice (ao (loI x i)) (Dg.dg 65536 (x (loI x i)).n).length (ca (loI x i))) (.int .i64 (x (loI x i)).e)
        have lm5 := loc_set lm3 (.bool (x (hiI x i)).s) (.slice (ao (hiI x i)) (Dg.dg 65536 (x (hiI x i)).n).length (ca (hiI x i))) (.int .i64 (x (hiI x i)).e)
        have lk5 := lk3.apart (c := w.heap.size + 1) (by omega) (.bool (x (hiI x i)).s) (.slice (ao (hiI x i)) (Dg.dg 65536 (x (hiI x i)).n).length (ca (hiI x i))) (.int .i64 (x (hiI x i)).e)
        have bb := (below_set3 (below_set3 bel (Nat.le_refl _) (.bool (x (loI x i)).s) (.slice (ao (loI x i)) (Dg.dg 65536 (x (loI x i)).n).length (ca (loI x i))) (.int .i64 (x (loI x i)).e)) (show w.heap.size ≤ w.heap.size + 1 by omega) (.bool (x (hiI x i)).s) (.slice (ao (hiI x i)) (Dg.dg 65536 (x (hiI x i)).n).length (ca (hiI x i))) (.int .i64 (x (hiI x i)).e)).drew
        replace lk5 := lk5.later ((Below.refl _ _).drew)
        replace lm5 := lm5.later ((Below.refl _ _).drew)
        obtain ⟨-, ⟨p0, p1, p2⟩, -⟩ := id lp
        obtain ⟨-, ⟨q0, q1, q2⟩, -⟩ := id lq
        obtain ⟨-, ⟨v0, v1, v2⟩, f0, f1, f2⟩ := id lk
        obtain ⟨-, ⟨r0, r1, r2⟩, -⟩ := id lq3
        obtain ⟨-, ⟨t0, t1, t2⟩, g0, g1, g2⟩ := id lm3
        clear lp lq lk lk2 bel lk3 lq3 lm3
        go_wp2_with fail
        go_region
        all_goals go_goals
        all_goals (obtain ⟨WF, hWF⟩ : ∃ W, ((((((wr.setCell ⟨w.heap.size, 0, none⟩ (.bool (x (loI x i)).s)).setCell ⟨w.heap.size, 1, none⟩ (.slice (ao (loI x i)) (Dg.dg 65536 (x (loI x i)).n).length (ca (loI x i)))).setCell ⟨w.heap.size, 2, none⟩ (.int .i64 (x (loI x i)).e)).setCell ⟨w.heap.size + 1, 0, none⟩ (.bool (x (hiI x i)).s)).setCell ⟨w.heap.size + 1, 1, none⟩ (.slice (ao (hiI x i)) (Dg.dg 65536 (x (hiI x i)).n).length (ca (hiI x i)))).setCell ⟨w.heap.size + 1, 2, none⟩ (.int .i64 (x (hiI x i)).e)).drew = W := ⟨_, rfl⟩; rw [hWF] at lk5 lm5 bb ⊢; clear hWF; go_wp2; obtain ⟨-, ⟨u0, u1, u2⟩, -⟩ := lk5; obtain ⟨-, ⟨u3, u4, u5⟩, -⟩ := lm5; refine bodyPost_ret (v := .tuple #[.agg #[.bool (x (loI x i)).s, .slice (ao (loI x i)) (Dg.dg 65536 (x (loI x i)).n).length (ca (loI x i)), .int .i64 (x (loI x i)).e], .agg #[.bool (x (hiI x i)).s, .slice (ao (hiI x i)) (Dg.dg 65536 (x (hiI x i)).n).length (ca (hiI x i)), .int .i64 (x (hiI x i)).e]]) (by simp [results, Tryd.results42, go_sem, u0, u1, u2, u3, u4, u5]) rfl ?_)
        all_goals (try rw [hmi])
        all_goals exact ⟨rfl, bb⟩
  · obtain ⟨W, hW⟩ : ∃ W, ((W0.alloc (.cells #[.bool s, .slice a0 la c0, .int .i64 e] 33)).alloc (.cells #[.bool s, .slice a0 la c0, .int .i64 e] 33)).drew = W := ⟨_, rfl⟩
    have bW : Below w.heap.size w W := by rw [← hW]; exact bVV.drew
    have kW := k1.later ((Below.refl _ _).drew)
    have kW2 := k2.later ((Below.refl _ _).drew)
    have pW := p1.later ((Below.refl _ _).drew)
    have qW := q1.later ((Below.refl _ _).drew)
    rw [hW] at kW kW2 pW qW ⊢
    clear k1 k2 p1 q1 hW n1 n2 cE0 cE1 cE2 cZ0 cZ1 cZ2 cV0 cV1 cV2 cZZ0 cZZ1 cZZ2 cZV0 cZV1 cZV2 cVZ0 cVZ1 cVZ2 cVV0 cVV1 cVV2 bZ bV bZZ bZV bVZ bVV bA
    obtain ⟨P, hPe⟩ : ∃ P, W0.heap.size = P := ⟨_, rfl⟩
    obtain ⟨Q, hQe⟩ : ∃ Q, W0.heap.size + 1 = Q := ⟨_, rfl⟩
    rw [hQe] at qW
    rw [hPe] at pW
    rw [hQe, hPe]
    have hq : Q ≠ P := by omega
    have hp0 : P ≠ w.heap.size := by omega
    have hq0 : Q ≠ w.heap.size := by omega
    have hp2 : P ≠ w.heap.size + 1 := by omega
    have hq2 : Q ≠ w.heap.size + 1 := by omega
    have hp1 : w.heap.size ≤ P := by omega
    have hq1 : w.heap.size ≤ Q := by omega
    clear hPe hQe hsz
    have L0 := LS'.out Q P W bW qW pW kW kW2
    clear pW qW kW kW2 bW c00 c01 c02 LS'
    go_wp2
    go_loopw [6] (EndsR w m x ao ca Q P w.heap.size (w.heap.size + 1)) (fun iv _ => m - (intOf iv).toNat)
    case atStart => exact L0
    case round =>
      clear L0
      obtain ⟨i, hi, rfl, bel, lp, lq, lk, lk2⟩ := hrel
      by_cases hlt : i + 1 < m
      · have hi1 : (0 : Int) ≤ (i : Int) + 1 := by omega
        have hi2 : (i : Int) + 1 < (m : Int) := by omega
        have bd : Below wr.heap.size wr wr.drew := (Below.refl _ _).drew
        have bel0 := below_trans bel bd
        have D0 : Hid (∀ W, Below w.heap.size w W → W.cell? ⟨b, (i + 1) * 3, none⟩ = some (.bool (x (i + 1)).s) ∧ W.cell? ⟨b, (i + 1) * 3 + 1, none⟩ = some (.slice (ao (i + 1)) (Dg.dg 65536 (x (i + 1)).n).length (ca (i + 1))) ∧ W.cell? ⟨b, (i + 1) * 3 + 2, none⟩ = some (.int .i64 (x (i + 1)).e)) := fun W hB => by
          rw [show (i + 1) * 3 = 3 * (i + 1) by omega]
          exact ⟨cell_later hB (HH0.out (i + 1) hlt), cell_later hB (HH1.out (i + 1) hlt), cell_later hB (HH2.out (i + 1) hlt)⟩
        have hl1 := loI_le x i
        have hl2 := hiI_le x i
        have lp1 := lp.later bd
        have lq1 := lq.later bd
        have lk1 := lk.later bd
        have lm1 := lk2.later bd
        obtain ⟨d0, d1, d2⟩ := D0.out _ bel0
        obtain ⟨-, ⟨p0, p1, p2⟩, -⟩ := id lp1
        clear bel lp lq lk lk2 bd
        go_wp2_with fail
        go_region_held3 (fun wq => (wq.cell? ⟨b, (i + 1) * 3, none⟩ = some (.bool (x (i + 1)).s) ∧ wq.cell? ⟨b, (i + 1) * 3 + 1, none⟩ = some (.slice (ao (i + 1)) (Dg.dg 65536 (x (i + 1)).n).length (ca (i + 1))) ∧ wq.cell? ⟨b, (i + 1) * 3 + 2, none⟩ = some (.int .i64 (x (i + 1)).e)) ∧ wq.cell? ⟨Q, 0, none⟩ = some (.bool (x (loI x i)).s) ∧ wq.cell? ⟨Q, 1, none⟩ = some (.slice (ao (loI x i)) (Dg.dg 65536 (x (loI x i)).n).length (ca (loI x i))) ∧ wq.cell? ⟨Q, 2, none⟩ = some (.int .i64 (x (loI x i)).e)) (go_keep) (first
          | (go_at_call 22; have hgd := bel0; clear hgd; refine (HHC.out (i + 1) (loI x i) _ hlt (by omega) bel0).mono ?_; rintro z w2 ⟨rfl, b2⟩; have bel2 := below_trans bel0 b2; have lp2 := lp1.later b2; have lq2 := lq1.later b2; have lk2 := lk1.later b2; have lm2 := lm1.later b2; obtain ⟨e0, e1, e2⟩ := D0.out _ bel2; obtain ⟨-, ⟨g0, g1, g2⟩, -⟩ := id lp2; clear bel0))
        by_cases hc : cmpT (x (i + 1)) (x (loI x i)) < 0
        · have hI := loI_pos hc
          have hlo : loI x (i + 1) ≤ i + 1 := loI_le x (i + 1)
          generalize cmpT (x (i + 1)) (x (loI x i)) = c1 at hc ⊢
          obtain ⟨hpl, ⟨p0, p1, p2⟩, f0, f1, f2⟩ := id lp2
          have lp3 := loc_set lp2 (.bool (x (i + 1)).s) (.slice (ao (i + 1)) (Dg.dg 65536 (x (i + 1)).n).length (ca (i + 1))) (.int .i64 (x (i + 1)).e)
          have lq3 := lq2.apart (c := Q) (by omega) (.bool (x (i + 1)).s) (.slice (ao (i + 1)) (Dg.dg 65536 (x (i + 1)).n).length (ca (i + 1))) (.int .i64 (x (i + 1)).e)
          have lk3 := lk2.apart (c := Q) (by omega) (.bool (x (i + 1)).s) (.slice (ao (i + 1)) (Dg.dg 65536 (x (i + 1)).n).length (ca (i + 1))) (.int .i64 (x (i + 1)).e)
          have lm3 := lm2.apart (c := Q) (by omega) (.bool (x (i + 1)).s) (.slice (ao (i + 1)) (Dg.dg 65536 (x (i + 1)).n).length (ca (i + 1))) (.int .i64 (x (i + 1)).e)
          have bel3 := below_set3 bel2 (b := Q) (by omega) (.bool (x (i + 1)).s) (.slice (ao (i + 1)) (Dg.dg 65536 (x (i + 1)).n).length (ca (i + 1))) (.int .i64 (x (i + 1)).e)
          clear lp2 lq2 lk2 lm2
          go_wp2_with fail
          generalize (((w2.setCell ⟨Q, 0, none⟩ (.bool (x (i + 1)).s)).setCell ⟨Q, 1, none⟩ (.slice (ao (i + 1)) (Dg.dg 65536 (x (i + 1)).n).length (ca (i + 1)))).setCell ⟨Q, 2, none⟩ (.int .i64 (x (i + 1)).e)) = W3 at lp3 lq3 lk3 lm3 bel3 ⊢
          have bd : Below W3.heap.size W3 W3.drew := (Below.refl _ _).drew
          have bel4 := below_trans bel3 bd
          have lp4 := lp3.later bd
          have lq4 := lq3.later bd
          have lk4 := lk3.later bd
          have lm4 := lm3.later bd
          obtain ⟨d0, d1, d2⟩ := D0.out _ bel4
          obtain ⟨-, ⟨q0, q1, q2⟩, -⟩ := id lq4
          clear lp3 lq3 lk3 lm3 bel3 bd
          go_wp2_with fail
          go_region_held3 (fun wq => (wq.cell? ⟨b, (i + 1) * 3, none⟩ = some (.bool (x (i + 1)).s) ∧ wq.cell? ⟨b, (i + 1) * 3 + 1, none⟩ = some (.slice (ao (i + 1)) (Dg.dg 65536 (x (i + 1)).n).length (ca (i + 1))) ∧ wq.cell? ⟨b, (i + 1) * 3 + 2, none⟩ = some (.int .i64 (x (i + 1)).e)) ∧ wq.cell? ⟨P, 0, none⟩ = some (.bool (x (hiI x i)).s) ∧ wq.cell? ⟨P, 1, none⟩ = some (.slice (ao (hiI x i)) (Dg.dg 65536 (x (hiI x i)).n).length (ca (hiI x i))) ∧ wq.cell? ⟨P, 2, none⟩ = some (.int .i64 (x (hiI x i)).e)) (go_keep) (first
            | (go_at_call 22; have hgd := bel4; clear hgd; refine (HHC.out (i + 1) (hiI x i) _ hlt (by omega) bel4).mono ?_; rintro z w5 ⟨rfl, b5⟩; have bel5 := below_trans bel4 b5; have lp5 := lp4.later b5; have lq5 := lq4.later b5; have lk5 := lk4.later b5; have lm5 := lm4.later b5; obtain ⟨t0, t1, t2⟩ := D0.out _ bel5; obtain ⟨-, ⟨g0, g1, g2⟩, -⟩ := id lq5; clear bel4))
          by_cases hd : 0 < cmpT (x (i + 1)) (x (hiI x i))
          · have hJ := hiI_pos hd
            generalize cmpT (x (i + 1)) (x (hiI x i)) = c2 at hd ⊢
            obtain ⟨hql, ⟨q0, q1, q2⟩, h0, h1, h2⟩ := id lq5
            have lq6 := loc_set lq5 (.bool (x (i + 1)).s) (.slice (ao (i + 1)) (Dg.dg 65536 (x (i + 1)).n).length (ca (i + 1))) (.int .i64 (x (i + 1)).e)
            have lp6 := lp5.apart (c := P) (by omega) (.bool (x (i + 1)).s) (.slice (ao (i + 1)) (Dg.dg 65536 (x (i + 1)).n).length (ca (i + 1))) (.int .i64 (x (i + 1)).e)
            have lk6 := lk5.apart (c := P) (by omega) (.bool (x (i + 1)).s) (.slice (ao (i + 1)) (Dg.dg 65536 (x (i + 1)).n).length (ca (i + 1))) (.int .i64 (x (i + 1)).e)
            have lm6 := lm5.apart (c := P) (by omega) (.bool (x (i + 1)).s) (.slice (ao (i + 1)) (Dg.dg 65536 (x (i + 1)).n).length (ca (i + 1))) (.int .i64 (x (i + 1)).e)
            have bel6 := below_set3 bel5 (b := P) (by omega) (.bool (x (i + 1)).s) (.slice (ao (i + 1)) (Dg.dg 65536 (x (i + 1)).n).length (ca (i + 1))) (.int .i64 (x (i + 1)).e)
            clear lp5 lq5 lk5 lm5 bel5
            go_wp2
            go_roundw
            case rel => exact ⟨i + 1, by omega, by go_num, bel6, by rw [hI]; exact lp6, by rw [hJ]; exact lq6, lk6, lm6⟩
            case measure => simp [intOf]; omega
          · have hJ := hiI_neg hd
            generalize cmpT (x (i + 1)) (x (hiI x i)) = c2 at hd ⊢
            go_wp2
            go_roundw
            case rel => exact ⟨i + 1, by omega, by go_num, bel5, by rw [hI]; exact lp5, by rw [hJ]; exact lq5, lk5, lm5⟩
            case measure => simp [intOf]; omega
        · have hI := loI_neg hc
          generalize cmpT (x (i + 1)) (x (loI x i)) = c1 at hc ⊢
          have lp3 := lp2
          have lq3 := lq2
          have lk3 := lk2
          have lm3 := lm2
          have bel3 := bel2
          go_wp2_with fail
          generalize hW3 : w2 = W3 at lp3 lq3 lk3 lm3 bel3 ⊢
          clear lp2 lq2 lk2 lm2 bel2 e0 e1 e2 g0 g1 g2 b2
          have bd : Below W3.heap.size W3 W3.drew := (Below.refl _ _).drew
          have bel4 := below_trans bel3 bd
          have lp4 := lp3.later bd
          have lq4 := lq3.later bd
          have lk4 := lk3.later bd
          have lm4 := lm3.later bd
          obtain ⟨d0, d1, d2⟩ := D0.out _ bel4
          obtain ⟨-, ⟨q0, q1, q2⟩, -⟩ := id lq4
          clear lp3 lq3 lk3 lm3 bel3 bd
          go_wp2_with fail
          go_region_held3 (fun wq => (wq.cell? ⟨b, (i + 1) * 3, none⟩ = some (.bool (x (i + 1)).s) ∧ wq.cell? ⟨b, (i + 1) * 3 + 1, none⟩ = some (.slice (ao (i + 1)) (Dg.dg 65536 (x (i + 1)).n).length (ca (i + 1))) ∧ wq.cell? ⟨b, (i + 1) * 3 + 2, none⟩ = some (.int .i64 (x (i + 1)).e)) ∧ wq.cell? ⟨P, 0, none⟩ = some (.bool (x (hiI x i)).s) ∧ wq.cell? ⟨P, 1, none⟩ = some (.slice (ao (hiI x i)) (Dg.dg 65536 (x (hiI x i)).n).length (ca (hiI x i))) ∧ wq.cell? ⟨P, 2, none⟩ = some (.int .i64 (x (hiI x i)).e)) (go_keep) (first
            | (go_at_call 22; have hgd := bel4; clear hgd; refine (HHC.out (i + 1) (hiI x i) _ hlt (by omega) bel4).mono ?_; rintro z w5 ⟨rfl, b5⟩; have bel5 := below_trans bel4 b5; have lp5 := lp4.later b5; have lq5 := lq4.later b5; have lk5 := lk4.later b5; have lm5 := lm4.later b5; obtain ⟨t0, t1, t2⟩ := D0.out _ bel5; obtain ⟨-, ⟨g0, g1, g2⟩, -⟩ := id lq5; clear bel4))
          by_cases hd : 0 < cmpT (x (i + 1)) (x (hiI x i))
          · have hJ := hiI_pos hd
            generalize cmpT (x (i + 1)) (x (hiI x i)) = c2 at hd ⊢
            obtain ⟨hql, ⟨q0, q1, q2⟩, h0, h1, h2⟩ := id lq5
            have lq6 := loc_set lq5 (.bool (x (i + 1)).s) (.slice (ao (i + 1)) (Dg.dg 65536 (x (i + 1)).n).length (ca (i + 1))) (.int .i64 (x (i + 1)).e)
            have lp6 := lp5.apart (c := P) (by omega) (.bool (x (i + 1)).s) (.slice (ao (i + 1)) (Dg.dg 65536 (x (i + 1)).n).length (ca (i + 1))) (.int .i64 (x (i + 1)).e)
            have lk6 := lk5.apart (c := P) (by omega) (.bool (x (i + 1)).s) (.slice (ao (i + 1)) (Dg.dg 65536 (x (i + 1)).n).length (ca (i + 1))) (.int .i64 (x (i + 1)).e)
            have lm6 := lm5.apart (c := P) (by omega) (.bool (x (i + 1)).s) (.slice (ao (i + 1)) (Dg.dg 65536 (x (i + 1)).n).length (ca (i + 1))) (.int .i64 (x (i + 1)).e)
            have bel6 := below_set3 bel5 (b := P) (by omega) (.bool (x (i + 1)).s) (.slice (ao (i + 1)) (Dg.dg 65536 (x (i + 1)).n).length (ca (i + 1))) (.int .i64 (x (i + 1)).e)
            clear lp5 lq5 lk5 lm5 bel5
            go_wp2
            go_roundw
            case rel => exact ⟨i + 1, by omega, by go_num, bel6, by rw [hI]; exact lp6, by rw [hJ]; exact lq6, lk6, lm6⟩
            case measure => simp [intOf]; omega
          · have hJ := hiI_neg hd
            generalize cmpT (x (i + 1)) (x (hiI x i)) = c2 at hd ⊢
            go_wp2
            go_roundw
            case rel => exact ⟨i + 1, by omega, by go_num, bel5, by rw [hI]; exact lp5, by rw [hJ]; exact lq5, lk5, lm5⟩
            case measure => simp [intOf]; omega
      · have hmi : m - 1 = i := by omega
        rw [hmi]
        have lk3 := loc_set lk (.bool (x (loI x i)).s) (.slice (ao (loI x i)) (Dg.dg 65536 (x (loI x i)).n).length (ca (loI x i))) (.int .i64 (x (loI x i)).e)
        have lq3 := lq.apart (c := w.heap.size) (by omega) (.bool (x (loI x i)).s) (.slice (ao (loI x i)) (Dg.dg 65536 (x (loI x i)).n).length (ca (loI x i))) (.int .i64 (x (loI x i)).e)
        have lm3 := lk2.apart (c := w.heap.size) (by omega) (.bool (x (loI x i)).s) (.slice (ao (loI x i)) (Dg.dg 65536 (x (loI x i)).n).length (ca (loI x i))) (.int .i64 (x (loI x i)).e)
        have lm5 := loc_set lm3 (.bool (x (hiI x i)).s) (.slice (ao (hiI x i)) (Dg.dg 65536 (x (hiI x i)).n).length (ca (hiI x i))) (.int .i64 (x (hiI x i)).e)
        have lk5 := lk3.apart (c := w.heap.size + 1) (by omega) (.bool (x (hiI x i)).s) (.slice (ao (hiI x i)) (Dg.dg 65536 (x (hiI x i)).n).length (ca (hiI x i))) (.int .i64 (x (hiI x i)).e)
        have bb := (below_set3 (below_set3 bel (Nat.le_refl _) (.bool (x (loI x i)).s) (.slice (ao (loI x i)) (Dg.dg 65536 (x (loI x i)).n).length (ca (loI x i))) (.int .i64 (x (loI x i)).e)) (show w.heap.size ≤ w.heap.size + 1 by omega) (.bool (x (hiI x i)).s) (.slice (ao (hiI x i)) (Dg.dg 65536 (x (hiI x i)).n).length (ca (hiI x i))) (.int .i64 (x (hiI x i)).e)).drew
        replace lk5 := lk5.later ((Below.refl _ _).drew)
        replace lm5 := lm5.later ((Below.refl _ _).drew)
        obtain ⟨-, ⟨p0, p1, p2⟩, -⟩ := id lp
        obtain ⟨-, ⟨q0, q1, q2⟩, -⟩ := id lq
        obtain ⟨-, ⟨v0, v1, v2⟩, f0, f1, f2⟩ := id lk
        obtain ⟨-, ⟨r0, r1, r2⟩, -⟩ := id lq3
        obtain ⟨-, ⟨t0, t1, t2⟩, g0, g1, g2⟩ := id lm3
        clear lp lq lk lk2 bel lk3 lq3 lm3
        go_wp2_with fail
        go_region
        all_goals go_goals
        all_goals (obtain ⟨WF, hWF⟩ : ∃ W, ((((((wr.setCell ⟨w.heap.size, 0, none⟩ (.bool (x (loI x i)).s)).setCell ⟨w.heap.size, 1, none⟩ (.slice (ao (loI x i)) (Dg.dg 65536 (x (loI x i)).n).length (ca (loI x i)))).setCell ⟨w.heap.size, 2, none⟩ (.int .i64 (x (loI x i)).e)).setCell ⟨w.heap.size + 1, 0, none⟩ (.bool (x (hiI x i)).s)).setCell ⟨w.heap.size + 1, 1, none⟩ (.slice (ao (hiI x i)) (Dg.dg 65536 (x (hiI x i)).n).length (ca (hiI x i)))).setCell ⟨w.heap.size + 1, 2, none⟩ (.int .i64 (x (hiI x i)).e)).drew = W := ⟨_, rfl⟩; rw [hWF] at lk5 lm5 bb ⊢; clear hWF; go_wp2; obtain ⟨-, ⟨u0, u1, u2⟩, -⟩ := lk5; obtain ⟨-, ⟨u3, u4, u5⟩, -⟩ := lm5; refine bodyPost_ret (v := .tuple #[.agg #[.bool (x (loI x i)).s, .slice (ao (loI x i)) (Dg.dg 65536 (x (loI x i)).n).length (ca (loI x i)), .int .i64 (x (loI x i)).e], .agg #[.bool (x (hiI x i)).s, .slice (ao (hiI x i)) (Dg.dg 65536 (x (hiI x i)).n).length (ca (hiI x i)), .int .i64 (x (hiI x i)).e]]) (by simp [results, Tryd.results42, go_sem, u0, u1, u2, u3, u4, u5]) rfl ?_)
        all_goals (try rw [hmi])
        all_goals exact ⟨rfl, bb⟩
end Go.Proofs.YtfajoaopfedokaaDoor

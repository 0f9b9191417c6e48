/-
  Balls: contract of ball.least.
-/
import Derived.Test.YtogfpdabpakfpaaDoorBa
import Derived.Test.YtogfpdabpakfpaaDoorDk1
namespace Go.Proofs.YtogfpdabpakfpaaDoor
open Go.RowKit

theorem Loc6.apart3 {w : World} {b c : Nat} {v0 v1 v2 v3 v4 v5 : Value} (h : Loc6 w b v0 v1 v2 v3 v4 v5) (hne : c ≠ b) (x0 x1 x2 : Value) :
    Loc6 (((w.setCell ⟨c, 0, none⟩ x0).setCell ⟨c, 1, none⟩ x1).setCell ⟨c, 2, none⟩ x2) b v0 v1 v2 v3 v4 v5 := by
  obtain ⟨hl, ⟨c0, c1, c2, c3, c4, c5⟩, f0, f1, f2, f3, f4, f5⟩ := h
  refine ⟨by simpa using hl, ⟨?_, ?_, ?_, ?_, ?_, ?_⟩, by simpa using f0, by simpa using f1, by simpa using f2, by simpa using f3, by simpa using f4, by simpa using f5⟩
  all_goals (rw [World.cell?_setCell_other (h := by simp), World.cell?_setCell_other (h := by simp), World.cell?_setCell_other (h := by simp)]; assumption)

theorem Own.apart6 {w : World} {base e b : Nat} {k : IntKind} {v : Value} {zs : List Nat} (h : Own w base e k v zs) (hb : b < base) (x0 x1 x2 x3 x4 x5 : Value) :
    Own ((((((w.setCell ⟨b, 0, none⟩ x0).setCell ⟨b, 1, none⟩ x1).setCell ⟨b, 2, none⟩ x2).setCell ⟨b, 3, none⟩ x3).setCell ⟨b, 4, none⟩ x4).setCell ⟨b, 5, none⟩ x5) base e k v zs :=
  (((((h.apart (grown_set w b 0 x0) hb).apart (grown_set _ b 1 x1) hb).apart (grown_set _ b 2 x2) hb).apart (grown_set _ b 3 x3) hb).apart (grown_set _ b 4 x4) hb).apart (grown_set _ b 5 x5) hb

/-- A ball of one's own and an error are handed back. -/
def BOwn (w : World) (r : Trip × Trip × Int) (e : Ending) (w' : World) : Prop :=
  ∃ p q, e = .returned (.tuple #[.agg #[.bool r.1.s, p, .int .i64 r.1.e, .bool r.2.1.s, q, .int .i64 r.2.1.e], .int .i64 r.2.2]) ∧ Own w' w.heap.size 88 .u32 p (Dg.dg 4294967296 r.1.n) ∧ Own w' w.heap.size 88 .u32 q (Dg.dg 4294967296 r.2.1.n) ∧ Below w.heap.size w w'

/-- Where the loop of least stands: both ends so far, and the result's block. -/
def LeastR (w : World) (m : Nat) (x : Nat → Trip) (ao : Nat → Option Addr) (ca : Nat → Nat) (p q : Nat) (iv : Value) (wr : World) : Prop :=
  ∃ i : Nat, i + 1 ≤ m ∧ iv = .int .i64 i ∧ Below w.heap.size w wr ∧
    Loc wr p (.bool (x (loI x i)).s) (.slice (ao (loI x i)) (Dg.dg 4294967296 (x (loI x i)).n).length (ca (loI x i))) (.int .i64 (x (loI x i)).e) ∧
    Loc wr q (.bool (x (hiI x i)).s) (.slice (ao (hiI x i)) (Dg.dg 4294967296 (x (hiI x i)).n).length (ca (hiI x i))) (.int .i64 (x (hiI x i)).e) ∧
    Loc6 wr w.heap.size (.bool false) (.slice none 0 0) (.int .i64 0) (.bool false) (.slice none 0 0) (.int .i64 0)

set_option maxRecDepth 100000 in
set_option maxHeartbeats 1600000 in
theorem bleast_any (n : Int) (b : Nat) (m : Nat) (x : Nat → Trip) (ao : Nat → Option Addr) (ca : Nat → Nat) (w : World) (hm : 2 ≤ m) (hm2 : m ≤ 4) (hb : b < w.heap.size)
    (h0 : ∀ j, j < m → w.cell? ⟨b, 3 * j, none⟩ = some (.bool (x j).s)) (h1 : ∀ j, j < m → w.cell? ⟨b, 3 * j + 1, none⟩ = some (.slice (ao j) (Dg.dg 4294967296 (x j).n).length (ca j))) (h2 : ∀ j, j < m → w.cell? ⟨b, 3 * j + 2, none⟩ = some (.int .i64 (x j).e))
    (HC : ∀ j k w1, j < m → k < m → Below w.heap.size w w1 → Calls Tryd.prog 111 #[.agg #[.bool (x j).s, .slice (ao j) (Dg.dg 4294967296 (x j).n).length (ca j), .int .i64 (x j).e], .agg #[.bool (x k).s, .slice (ao k) (Dg.dg 4294967296 (x k).n).length (ca k), .int .i64 (x k).e]] w1 fun z w' => z = .returned (.int .i64 (cmpT (x j) (x k))) ∧ Below w1.heap.size w1 w')
    (HU : ∀ j up w1, j < m → Below w.heap.size w w1 → Calls Tryd.prog 112 #[.agg #[.bool (x j).s, .slice (ao j) (Dg.dg 4294967296 (x j).n).length (ca j), .int .i64 (x j).e], .int .i64 n, .bool up] w1 (DVRes w1 (cutT (x j) n up)))
    (HS : ∀ j up v w1, j < m → Below w.heap.size w w1 → Dv w1 v (cutT (x j) n up) → Calls Tryd.prog 99 #[v] w1 (DAns w1 (shortT (cutT (x j) n up)))) :
    Calls Tryd.prog 91 #[.int .i64 n, .slice (some ⟨b, 0, none⟩) m m] w (BOwn w (ballR (shortT (cutT (loT x (m - 1)) n false)) (shortT (cutT (hiT x (m - 1)) n true)))) := by
  have c00 : w.cell? ⟨b, 0, none⟩ = some (.bool (x 0).s) := h0 0 (by omega)
  have c01 : w.cell? ⟨b, 1, none⟩ = some (.slice (ao 0) (Dg.dg 4294967296 (x 0).n).length (ca 0)) := h1 0 (by omega)
  have c02 : w.cell? ⟨b, 2, none⟩ = some (.int .i64 (x 0).e) := h2 0 (by omega)
  have HH0 : Hid _ := h0
  have HH1 : Hid _ := h1
  have HH2 : Hid _ := h2
  have HHC : Hid _ := HC
  have HHU : Hid _ := HU
  have HHS : Hid _ := HS
  clear h0 h1 h2 HC HU HS
  obtain ⟨s, hs⟩ : ∃ s, (x 0).s = s := ⟨_, rfl⟩
  obtain ⟨a0, ha0⟩ : ∃ s, ao 0 = s := ⟨_, rfl⟩
  obtain ⟨c0, hc0⟩ : ∃ s, ca 0 = s := ⟨_, rfl⟩
  obtain ⟨la, hla⟩ : ∃ s, (Dg.dg 4294967296 (x 0).n).length = s := ⟨_, rfl⟩
  obtain ⟨e, he⟩ : ∃ s, (x 0).e = s := ⟨_, rfl⟩
  rw [hs] at c00
  rw [ha0, hc0, hla] at c01
  rw [he] at c02
  have bd : Below w.heap.size w (w.alloc (.cells #[.bool false, .slice none 0 0, .int .i64 0, .bool false, .slice none 0 0, .int .i64 0] 27)) := below_alloc w _
  have bdZ : Below w.heap.size w ((w.alloc (.cells #[.bool false, .slice none 0 0, .int .i64 0, .bool false, .slice none 0 0, .int .i64 0] 27)).alloc (.cells #[.bool false, .slice none 0 0, .int .i64 0] 105)) := below_trans bd (below_alloc _ _)
  have bdV : Below w.heap.size w ((w.alloc (.cells #[.bool false, .slice none 0 0, .int .i64 0, .bool false, .slice none 0 0, .int .i64 0] 27)).alloc (.cells #[.bool s, .slice a0 la c0, .int .i64 e] 105)) := below_trans bd (below_alloc _ _)
  have bdZZ : Below w.heap.size w (((w.alloc (.cells #[.bool false, .slice none 0 0, .int .i64 0, .bool false, .slice none 0 0, .int .i64 0] 27)).alloc (.cells #[.bool false, .slice none 0 0, .int .i64 0] 105)).alloc (.cells #[.bool false, .slice none 0 0, .int .i64 0] 105)) := below_trans bdZ (below_alloc _ _)
  have bdZV : Below w.heap.size w (((w.alloc (.cells #[.bool false, .slice none 0 0, .int .i64 0, .bool false, .slice none 0 0, .int .i64 0] 27)).alloc (.cells #[.bool false, .slice none 0 0, .int .i64 0] 105)).alloc (.cells #[.bool s, .slice a0 la c0, .int .i64 e] 105)) := below_trans bdZ (below_alloc _ _)
  have bdVZ : Below w.heap.size w (((w.alloc (.cells #[.bool false, .slice none 0 0, .int .i64 0, .bool false, .slice none 0 0, .int .i64 0] 27)).alloc (.cells #[.bool s, .slice a0 la c0, .int .i64 e] 105)).alloc (.cells #[.bool false, .slice none 0 0, .int .i64 0] 105)) := below_trans bdV (below_alloc _ _)
  have bdVV : Below w.heap.size w (((w.alloc (.cells #[.bool false, .slice none 0 0, .int .i64 0, .bool false, .slice none 0 0, .int .i64 0] 27)).alloc (.cells #[.bool s, .slice a0 la c0, .int .i64 e] 105)).alloc (.cells #[.bool s, .slice a0 la c0, .int .i64 e] 105)) := below_trans bdV (below_alloc _ _)
  have cE0 := cell_later (bd.drew) c00
  have cE1 := cell_later (bd.drew) c01
  have cE2 := cell_later (bd.drew) c02
  have cZ0 := cell_later (bdZ.drew) c00
  have cZ1 := cell_later (bdZ.drew) c01
  have cZ2 := cell_later (bdZ.drew) c02
  have cV0 := cell_later (bdV.drew) c00
  have cV1 := cell_later (bdV.drew) c01
  have cV2 := cell_later (bdV.drew) c02
  have cZZ0 := cell_later (bdZZ.drew) c00
  have cZZ1 := cell_later (bdZZ.drew) c01
  have cZZ2 := cell_later (bdZZ.drew) c02
  have cZV0 := cell_later (bdZV.drew) c00
  have cZV1 := cell_later (bdZV.drew) c01
  have cZV2 := cell_later (bdZV.drew) c02
  have cVZ0 := cell_later (bdVZ.drew) c00
  have cVZ1 := cell_later (bdVZ.drew) c01
  have cVZ2 := cell_later (bdVZ.drew) c02
  have cVV0 := cell_later (bdVV.drew) c00
  have cVV1 := cell_later (bdVV.drew) c01
  have cVV2 := cell_later (bdVV.drew) c02
  have n1 : b ≠ w.heap.size := by omega
  have n2 : b ≠ w.heap.size + 1 := by omega
  have n3 : b ≠ w.heap.size + 1 + 1 := by omega
  have hm' : (0 : Int) < (m : Int) := by omega
  have k0 := loc6_new w (.bool false) (.slice none 0 0) (.int .i64 0) (.bool false) (.slice none 0 0) (.int .i64 0) 27
  have k1 := (k0.later (below_alloc _ (.cells #[.bool s, .slice a0 la c0, .int .i64 e] 105))).later (below_alloc _ (.cells #[.bool s, .slice a0 la c0, .int .i64 e] 105))
  have p1 := (loc_new (w.alloc (.cells #[.bool false, .slice none 0 0, .int .i64 0, .bool false, .slice none 0 0, .int .i64 0] 27)) (.bool s) (.slice a0 la c0) (.int .i64 e) 105).later (below_alloc _ (.cells #[.bool s, .slice a0 la c0, .int .i64 e] 105))
  have q1 := loc_new ((w.alloc (.cells #[.bool false, .slice none 0 0, .int .i64 0, .bool false, .slice none 0 0, .int .i64 0] 27)).alloc (.cells #[.bool s, .slice a0 la c0, .int .i64 e] 105)) (.bool s) (.slice a0 la c0) (.int .i64 e) 105
  simp only [World.size_alloc] at p1 q1
  have LS : ∀ P Q W, Below w.heap.size w W → Loc W P (.bool s) (.slice a0 la c0) (.int .i64 e) → Loc W Q (.bool s) (.slice a0 la c0) (.int .i64 e) → Loc6 W w.heap.size (.bool false) (.slice none 0 0) (.int .i64 0) (.bool false) (.slice none 0 0) (.int .i64 0) → LeastR w m x ao ca P Q (.int .i64 0) W := by
    intro P Q W hB hP hQ hK
    refine ⟨0, by omega, rfl, hB, ?_, ?_, hK⟩
    · show Loc W P (.bool (x 0).s) (.slice (ao 0) (Dg.dg 4294967296 (x 0).n).length (ca 0)) (.int .i64 (x 0).e)
      rw [hs, ha0, hc0, hla, he]; exact hP
    · show Loc W Q (.bool (x 0).s) (.slice (ao 0) (Dg.dg 4294967296 (x 0).n).length (ca 0)) (.int .i64 (x 0).e)
      rw [hs, ha0, hc0, hla, he]; exact hQ
  have LS' : Hid _ := LS
  clear LS hs ha0 hc0 hla he k0
  go_enter Tryd.func91, Tryd.ntmps91
  go_wp2_with fail
  go_region
  all_goals go_goals
  · obtain ⟨W, hW⟩ : ∃ W, (((w.alloc (.cells #[.bool false, .slice none 0 0, .int .i64 0, .bool false, .slice none 0 0, .int .i64 0] 27)).alloc (.cells #[.bool s, .slice a0 la c0, .int .i64 e] 105)).alloc (.cells #[.bool s, .slice a0 la c0, .int .i64 e] 105)).drew = W := ⟨_, rfl⟩
    have bW : Below w.heap.size w W := by rw [← hW]; exact bdVV.drew
    have kW := k1.later ((Below.refl _ _).drew)
    have pW := p1.later ((Below.refl _ _).drew)
    have qW := q1.later ((Below.refl _ _).drew)
    rw [hW] at kW pW qW ⊢
    clear k1 p1 q1 hW n1 n2 n3 cE0 cE1 cE2 cZ0 cZ1 cZ2 cV0 cV1 cV2 cZZ0 cZZ1 cZZ2 cZV0 cZV1 cZV2 cVZ0 cVZ1 cVZ2 cVV0 cVV1 cVV2 bd bdZ bdV bdZZ bdZV bdVZ bdVV
    have hq : w.heap.size + 1 + 1 ≠ w.heap.size + 1 := by omega
    have hp0 : w.heap.size + 1 ≠ w.heap.size := by omega
    have hq0 : w.heap.size + 1 + 1 ≠ w.heap.size := by omega
    have hp1 : w.heap.size ≤ w.heap.size + 1 := by omega
    have hq1 : w.heap.size ≤ w.heap.size + 1 + 1 := by omega
    generalize w.heap.size + 1 + 1 = Q at hq hq0 hq1 qW ⊢
    generalize w.heap.size + 1 = P at hq hp0 hp1 pW ⊢
    have L0 := LS'.out P Q W bW pW qW kW
    clear pW qW kW bW c00 c01 c02
    go_wp2
    go_loopw [22] (LeastR w m x ao ca P Q) (fun iv _ => m - (intOf iv).toNat)
    case atStart => exact L0
    case round =>
      clear L0
      obtain ⟨i, hi, rfl, bel, lp, lq, lk⟩ := hrel
      by_cases hlt : i + 1 < m
      · have d0 : wr.cell? ⟨b, 3 + i * 3, none⟩ = some (.bool (x (i + 1)).s) := by rw [show 3 + i * 3 = 3 * (i + 1) by omega]; exact cell_later bel (HH0.out (i + 1) hlt)
        have d1 : wr.cell? ⟨b, 3 + i * 3 + 1, none⟩ = some (.slice (ao (i + 1)) (Dg.dg 4294967296 (x (i + 1)).n).length (ca (i + 1))) := by rw [show 3 + i * 3 = 3 * (i + 1) by omega]; exact cell_later bel (HH1.out (i + 1) hlt)
        have d2 : wr.cell? ⟨b, 3 + i * 3 + 2, none⟩ = some (.int .i64 (x (i + 1)).e) := by rw [show 3 + i * 3 = 3 * (i + 1) by omega]; exact cell_later bel (HH2.out (i + 1) hlt)
        have hl1 := loI_le x i
        have hl2 := hiI_le x i
        have ba := below_alloc wr (.cells #[.bool (x (i + 1)).s, .slice (ao (i + 1)) (Dg.dg 4294967296 (x (i + 1)).n).length (ca (i + 1)), .int .i64 (x (i + 1)).e] 105)
        have r1 := loc_new wr (.bool (x (i + 1)).s) (.slice (ao (i + 1)) (Dg.dg 4294967296 (x (i + 1)).n).length (ca (i + 1))) (.int .i64 (x (i + 1)).e) 105
        have bel1 := below_trans bel ba
        have hrp : P ≠ wr.heap.size := by have := lp.1; omega
        have hrq : Q ≠ wr.heap.size := by have := lq.1; omega
        have lp1 := lp.later ba
        have lq1 := lq.later ba
        have lk1 := lk.later ba
        clear lp lq lk ba
        obtain ⟨-, ⟨p0, p1, p2⟩, -⟩ := id lp1
        go_wp2_with fail
        refine (HHC.out (i + 1) (loI x i) _ hlt (by omega) bel1).mono ?_
        rintro z w2 ⟨rfl, b2⟩
        have bel2 := below_trans bel1 b2
        have lp2 := lp1.later b2
        have lq2 := lq1.later b2
        have lk2 := lk1.later b2
        have r2 := r1.later b2
        clear p0 p1 p2 lp1 lq1 lk1 r1 b2 bel1 d0 d1 d2
        generalize wr.heap.size = R at hrp hrq r2 ⊢
        obtain ⟨-, ⟨e0, e1, e2⟩, -⟩ := id r2
        by_cases hc : cmpT (x (i + 1)) (x (loI x i)) < 0
        · have hI := loI_pos hc
          generalize cmpT (x (i + 1)) (x (loI x i)) = c1 at hc ⊢
          obtain ⟨hpl, ⟨p0, p1, p2⟩, f0, f1, f2⟩ := id lp2
          obtain ⟨-, ⟨q0, q1, q2⟩, -⟩ := id (lq2.apart (c := P) (by omega) (.bool (x (i + 1)).s) (.slice (ao (i + 1)) (Dg.dg 4294967296 (x (i + 1)).n).length (ca (i + 1))) (.int .i64 (x (i + 1)).e))
          obtain ⟨-, ⟨s0, s1, s2⟩, -⟩ := id (r2.apart (c := P) (by omega) (.bool (x (i + 1)).s) (.slice (ao (i + 1)) (Dg.dg 4294967296 (x (i + 1)).n).length (ca (i + 1))) (.int .i64 (x (i + 1)).e))
          have lp3 := loc_set lp2 (.bool (x (i + 1)).s) (.slice (ao (i + 1)) (Dg.dg 4294967296 (x (i + 1)).n).length (ca (i + 1))) (.int .i64 (x (i + 1)).e)
          have lq3 := lq2.apart (c := P) (by omega) (.bool (x (i + 1)).s) (.slice (ao (i + 1)) (Dg.dg 4294967296 (x (i + 1)).n).length (ca (i + 1))) (.int .i64 (x (i + 1)).e)
          have r3 := r2.apart (c := P) (by omega) (.bool (x (i + 1)).s) (.slice (ao (i + 1)) (Dg.dg 4294967296 (x (i + 1)).n).length (ca (i + 1))) (.int .i64 (x (i + 1)).e)
          have lk3 := lk2.apart3 (c := P) (by omega) (.bool (x (i + 1)).s) (.slice (ao (i + 1)) (Dg.dg 4294967296 (x (i + 1)).n).length (ca (i + 1))) (.int .i64 (x (i + 1)).e)
          have bel3 := below_set3 bel2 (b := P) (by omega) (.bool (x (i + 1)).s) (.slice (ao (i + 1)) (Dg.dg 4294967296 (x (i + 1)).n).length (ca (i + 1))) (.int .i64 (x (i + 1)).e)
          clear lp2 lq2 lk2 r2 bel2
          go_wp2_with fail
          refine (HHC.out (i + 1) (hiI x i) _ hlt (by omega) bel3).mono ?_
          rintro z w4 ⟨rfl, b4⟩
          have bel4 := below_trans bel3 b4
          have lp4 := lp3.later b4
          have lq4 := lq3.later b4
          have lk4 := lk3.later b4
          have r4 := r3.later b4
          clear lp3 lq3 lk3 r3 bel3 b4
          obtain ⟨-, ⟨t0, t1, t2⟩, -⟩ := id r4
          by_cases hd : 0 < cmpT (x (i + 1)) (x (hiI x i))
          · have hJ := hiI_pos hd
            generalize cmpT (x (i + 1)) (x (hiI x i)) = c2 at hd ⊢
            obtain ⟨hql, ⟨q0, q1, q2⟩, g0, g1, g2⟩ := id lq4
            have lq5 := loc_set lq4 (.bool (x (i + 1)).s) (.slice (ao (i + 1)) (Dg.dg 4294967296 (x (i + 1)).n).length (ca (i + 1))) (.int .i64 (x (i + 1)).e)
            have lp5 := lp4.apart (c := Q) (by omega) (.bool (x (i + 1)).s) (.slice (ao (i + 1)) (Dg.dg 4294967296 (x (i + 1)).n).length (ca (i + 1))) (.int .i64 (x (i + 1)).e)
            have lk5 := lk4.apart3 (c := Q) (by omega) (.bool (x (i + 1)).s) (.slice (ao (i + 1)) (Dg.dg 4294967296 (x (i + 1)).n).length (ca (i + 1))) (.int .i64 (x (i + 1)).e)
            have bel5 := below_set3 bel4 (b := Q) (by omega) (.bool (x (i + 1)).s) (.slice (ao (i + 1)) (Dg.dg 4294967296 (x (i + 1)).n).length (ca (i + 1))) (.int .i64 (x (i + 1)).e)
            clear lp4 lq4 lk4 r4 bel4
            go_wp2
            go_roundw
            case rel => exact ⟨i + 1, by omega, by go_num, bel5, by rw [hI]; exact lp5, by rw [hJ]; exact lq5, lk5⟩
            case measure => simp [intOf]; omega
          · have hJ := hiI_neg hd
            generalize cmpT (x (i + 1)) (x (hiI x i)) = c2 at hd ⊢
            clear r4
            go_wp2
            go_roundw
            case rel => exact ⟨i + 1, by omega, by go_num, bel4, by rw [hI]; exact lp4, by rw [hJ]; exact lq4, lk4⟩
            case measure => simp [intOf]; omega
        · have hI := loI_neg hc
          generalize cmpT (x (i + 1)) (x (loI x i)) = c1 at hc ⊢
          obtain ⟨-, ⟨q0, q1, q2⟩, -⟩ := id lq2
          go_wp2_with fail
          refine (HHC.out (i + 1) (hiI x i) _ hlt (by omega) bel2).mono ?_
          rintro z w4 ⟨rfl, b4⟩
          have bel4 := below_trans bel2 b4
          have lp4 := lp2.later b4
          have lq4 := lq2.later b4
          have lk4 := lk2.later b4
          have r4 := r2.later b4
          clear lp2 lq2 lk2 r2 bel2 b4
          obtain ⟨-, ⟨t0, t1, t2⟩, -⟩ := id r4
          by_cases hd : 0 < cmpT (x (i + 1)) (x (hiI x i))
          · have hJ := hiI_pos hd
            generalize cmpT (x (i + 1)) (x (hiI x i)) = c2 at hd ⊢
            obtain ⟨hql, ⟨q0, q1, q2⟩, g0, g1, g2⟩ := id lq4
            have lq5 := loc_set lq4 (.bool (x (i + 1)).s) (.slice (ao (i + 1)) (Dg.dg 4294967296 (x (i + 1)).n).length (ca (i + 1))) (.int .i64 (x (i + 1)).e)
            have lp5 := lp4.apart (c := Q) (by omega) (.bool (x (i + 1)).s) (.slice (ao (i + 1)) (Dg.dg 4294967296 (x (i + 1)).n).length (ca (i + 1))) (.int .i64 (x (i + 1)).e)
            have lk5 := lk4.apart3 (c := Q) (by omega) (.bool (x (i + 1)).s) (.slice (ao (i + 1)) (Dg.dg 4294967296 (x (i + 1)).n).length (ca (i + 1))) (.int .i64 (x (i + 1)).e)
            have bel5 := below_set3 bel4 (b := Q) (by omega) (.bool (x (i + 1)).s) (.slice (ao (i + 1)) (Dg.dg 4294967296 (x (i + 1)).n).length (ca (i + 1))) (.int .i64 (x (i + 1)).e)
            clear lp4 lq4 lk4 r4 bel4
            go_wp2
            go_roundw
            case rel => exact ⟨i + 1, by omega, by go_num, bel5, by rw [hI]; exact lp5, by rw [hJ]; exact lq5, lk5⟩
            case measure => simp [intOf]; omega
          · have hJ := hiI_neg hd
            generalize cmpT (x (i + 1)) (x (hiI x i)) = c2 at hd ⊢
            clear r4
            go_wp2
            go_roundw
            case rel => exact ⟨i + 1, by omega, by go_num, bel4, by rw [hI]; exact lp4, by rw [hJ]; exact lq4, lk4⟩
            case measure => simp [intOf]; omega
      · have hmi : m - 1 = i := by omega
        rw [hmi]
        have hl1 := loI_le x i
        have hl2 := hiI_le x i
        obtain ⟨-, ⟨p0, p1, p2⟩, -⟩ := id lp
        go_wp2_with fail
        refine (HHU.out (loI x i) false wr (by omega) bel).mono ?_
        rintro z w3 ⟨v3, rfl, r3, b3⟩
        have b03 := below_trans bel b3
        have q3 := lq.later b3
        have k3 := lk.later b3
        have S3 := HHS.out (loI x i) false _ w3 (by omega) b03 ⟨v3, rfl, r3⟩
        clear bel lp lq lk b3 p0 p1 p2
        change Calls _ _ _ _ (DAns w3 (shortT (cutT (loT x i) n false))) at S3
        obtain ⟨⟨⟨rs, rn, re⟩, c⟩, hr⟩ : ∃ r, shortT (cutT (loT x i) n false) = r := ⟨_, rfl⟩
        rw [hr] at S3 ⊢
        go_wp2_with fail
        refine S3.mono ?_
        rintro z w4 ⟨v4, rfl, o4, b4⟩
        have b04 := below_trans b03 b4
        have q4 := q3.later b4
        have k4 := k3.later b4
        have hws : w.heap.size < w3.heap.size := k3.1
        have o4 := o4.lower (show w.heap.size + 1 ≤ w3.heap.size by omega)
        clear S3 r3 b03 q3 k3 b4
        obtain ⟨ao4, c4, h4⟩ := o4.rd.shape
        subst h4
        simp only at o4 ⊢
        have b5 := below_alloc w4 (.cells #[.bool rs, .slice ao4 (Dg.dg 4294967296 rn).length c4, .int .i64 re] 25)
        have a5 := loc_new w4 (.bool rs) (.slice ao4 (Dg.dg 4294967296 rn).length c4) (.int .i64 re) 25
        have b05 := below_trans b04 b5
        have q5 := q4.later b5
        have k5 := k4.later b5
        have o5 := o4.later b5
        clear b04 q4 k4 b5 o4
        obtain ⟨-, ⟨p0, p1, p2⟩, -⟩ := id q5
        by_cases hc : c = 0
        · subst hc
          go_wp2_with fail
          refine (HHU.out (hiI x i) true _ (by omega) b05).mono ?_
          rintro z w6 ⟨v6, rfl, r6, b6⟩
          have b06 := below_trans b05 b6
          have a6 := a5.later b6
          have k6 := k5.later b6
          have o6 := o5.later b6
          have S6 := HHS.out (hiI x i) true _ w6 (by omega) b06 ⟨v6, rfl, r6⟩
          clear b05 a5 k5 q5 b6 o5 p0 p1 p2
          change Calls _ _ _ _ (DAns w6 (shortT (cutT (hiT x i) n true))) at S6
          obtain ⟨⟨⟨qs, qn, qe⟩, d⟩, hq⟩ : ∃ r, shortT (cutT (hiT x i) n true) = r := ⟨_, rfl⟩
          rw [hq] at S6 ⊢
          go_wp2_with fail
          refine S6.mono ?_
          rintro z w7 ⟨v7, rfl, o7, b7⟩
          have b07 := below_trans b06 b7
          have a7 := a6.later b7
          have k7 := k6.later b7
          have o67 := o6.later b7
          have hws6 : w.heap.size < w6.heap.size := k6.1
          have o7 := o7.lower (show w.heap.size + 1 ≤ w6.heap.size by omega)
          clear b06 a6 k6 o6 b7 r6 S6
          obtain ⟨ao7, c7, h7⟩ := o7.rd.shape
          subst h7
          simp only at o7 ⊢
          have b8 := below_alloc w7 (.cells #[.bool qs, .slice ao7 (Dg.dg 4294967296 qn).length c7, .int .i64 qe] 25)
          have e8 := loc_new w7 (.bool qs) (.slice ao7 (Dg.dg 4294967296 qn).length c7) (.int .i64 qe) 25
          have bX := below_trans b07 b8
          have a8 := a7.later b8
          have kX := k7.later b8
          have o68 := o67.later b8
          have o78 := o7.later b8
          clear b07 a7 k7 b8 o67 o7
          by_cases hd : d = 0
          · subst hd
            have hR : ballR (⟨rs, rn, re⟩, 0) (⟨qs, qn, qe⟩, 0) = (⟨rs, rn, re⟩, ⟨qs, qn, qe⟩, 0) := by simp [ballR]
            obtain ⟨-, ⟨i0, i1, i2⟩, -⟩ := id a8
            obtain ⟨-, ⟨j0, j1, j2⟩, -⟩ := id e8
            obtain ⟨hl, ⟨v0, v1, v2, v3, v4, v5⟩, f0, f1, f2, f3, f4, f5⟩ := id kX
            go_wp2
            obtain ⟨-, ⟨u0, u1, u2, u3, u4, u5⟩, -⟩ := loc6_set kX (.bool rs) (.slice ao4 (Dg.dg 4294967296 rn).length c4) (.int .i64 re) (.bool qs) (.slice ao7 (Dg.dg 4294967296 qn).length c7) (.int .i64 qe)
            have bb := below_set6 bX (show w.heap.size ≤ w.heap.size by omega) (.bool rs) (.slice ao4 (Dg.dg 4294967296 rn).length c4) (.int .i64 re) (.bool qs) (.slice ao7 (Dg.dg 4294967296 qn).length c7) (.int .i64 qe)
            refine bodyPost_ret (v := .tuple #[.agg #[.bool rs, .slice ao4 (Dg.dg 4294967296 rn).length c4, .int .i64 re, .bool qs, .slice ao7 (Dg.dg 4294967296 qn).length c7, .int .i64 qe], .int .i64 0]) (by simp [results, Tryd.results91, go_sem, u0, u1, u2, u3, u4, u5]) rfl ?_
            try rw [hR]
            exact ⟨_, _, rfl, (o68.apart6 (by omega) _ _ _ _ _ _).lower (by omega), (o78.apart6 (by omega) _ _ _ _ _ _).lower (by omega), bb⟩
          · have hR : ballR (⟨rs, rn, re⟩, 0) (⟨qs, qn, qe⟩, d) = (⟨false, 0, 0⟩, ⟨false, 0, 0⟩, d) := by simp [ballR, hd]
            obtain ⟨hl, ⟨v0, v1, v2, v3, v4, v5⟩, f0, f1, f2, f3, f4, f5⟩ := id kX
            go_wp2
            obtain ⟨-, ⟨u0, u1, u2, u3, u4, u5⟩, -⟩ := loc6_set kX (.bool false) (.slice none 0 0) (.int .i64 0) (.bool false) (.slice none 0 0) (.int .i64 0)
            have bb := below_set6 bX (show w.heap.size ≤ w.heap.size by omega) (.bool false) (.slice none 0 0) (.int .i64 0) (.bool false) (.slice none 0 0) (.int .i64 0)
            refine bodyPost_ret (v := .tuple #[.agg #[.bool false, .slice none 0 0, .int .i64 0, .bool false, .slice none 0 0, .int .i64 0], .int .i64 d]) (by simp [results, Tryd.results91, go_sem, u0, u1, u2, u3, u4, u5]) rfl ?_
            try rw [hR]
            exact ⟨_, _, rfl, own_nil _ _ _ _, own_nil _ _ _ _, bb⟩
        · have hR : ballR (⟨rs, rn, re⟩, c) (shortT (cutT (hiT x i) n true)) = (⟨false, 0, 0⟩, ⟨false, 0, 0⟩, c) := by simp [ballR, hc]
          have kX := k5
          have bX := b05
          obtain ⟨hl, ⟨v0, v1, v2, v3, v4, v5⟩, f0, f1, f2, f3, f4, f5⟩ := id kX
          go_wp2
          obtain ⟨-, ⟨u0, u1, u2, u3, u4, u5⟩, -⟩ := loc6_set kX (.bool false) (.slice none 0 0) (.int .i64 0) (.bool false) (.slice none 0 0) (.int .i64 0)
          have bb := below_set6 bX (show w.heap.size ≤ w.heap.size by omega) (.bool false) (.slice none 0 0) (.int .i64 0) (.bool false) (.slice none 0 0) (.int .i64 0)
          refine bodyPost_ret (v := .tuple #[.agg #[.bool false, .slice none 0 0, .int .i64 0, .bool false, .slice none 0 0, .int .i64 0], .int .i64 c]) (by simp [results, Tryd.results91, go_sem, u0, u1, u2, u3, u4, u5]) rfl ?_
          try rw [hR]
          exact ⟨_, _, rfl, own_nil _ _ _ _, own_nil _ _ _ _, bb⟩
  · obtain ⟨W, hW⟩ : ∃ W, (((w.alloc (.cells #[.bool false, .slice none 0 0, .int .i64 0, .bool false, .slice none 0 0, .int .i64 0] 27)).alloc (.cells #[.bool s, .slice a0 la c0, .int .i64 e] 105)).alloc (.cells #[.bool s, .slice a0 la c0, .int .i64 e] 105)).drew = W := ⟨_, rfl⟩
    have bW : Below w.heap.size w W := by rw [← hW]; exact bdVV.drew
    have kW := k1.later ((Below.refl _ _).drew)
    have pW := p1.later ((Below.refl _ _).drew)
    have qW := q1.later ((Below.refl _ _).drew)
    rw [hW] at kW pW qW ⊢
    clear k1 p1 q1 hW n1 n2 n3 cE0 cE1 cE2 cZ0 cZ1 cZ2 cV0 cV1 cV2 cZZ0 cZZ1 cZZ2 cZV0 cZV1 cZV2 cVZ0 cVZ1 cVZ2 cVV0 cVV1 cVV2 bd bdZ bdV bdZZ bdZV bdVZ bdVV
    have hq : w.heap.size + 1 + 1 ≠ w.heap.size + 1 := by omega
    have hp0 : w.heap.size + 1 ≠ w.heap.size := by omega
    have hq0 : w.heap.size + 1 + 1 ≠ w.heap.size := by omega
    have hp1 : w.heap.size ≤ w.heap.size + 1 := by omega
    have hq1 : w.heap.size ≤ w.heap.size + 1 + 1 := by omega
    generalize w.heap.size + 1 + 1 = Q at hq hq0 hq1 qW ⊢
    generalize w.heap.size + 1 = P at hq hp0 hp1 pW ⊢
    have L0 := LS'.out Q P W bW qW pW kW
    clear pW qW kW bW c00 c01 c02
    go_wp2
    go_loopw [22] (LeastR w m x ao ca Q P) (fun iv _ => m - (intOf iv).toNat)
    case atStart => exact L0
    case round =>
      clear L0
      obtain ⟨i, hi, rfl, bel, lp, lq, lk⟩ := hrel
      by_cases hlt : i + 1 < m
      · have d0 : wr.cell? ⟨b, 3 + i * 3, none⟩ = some (.bool (x (i + 1)).s) := by rw [show 3 + i * 3 = 3 * (i + 1) by omega]; exact cell_later bel (HH0.out (i + 1) hlt)
        have d1 : wr.cell? ⟨b, 3 + i * 3 + 1, none⟩ = some (.slice (ao (i + 1)) (Dg.dg 4294967296 (x (i + 1)).n).length (ca (i + 1))) := by rw [show 3 + i * 3 = 3 * (i + 1) by omega]; exact cell_later bel (HH1.out (i + 1) hlt)
        have d2 : wr.cell? ⟨b, 3 + i * 3 + 2, none⟩ = some (.int .i64 (x (i + 1)).e) := by rw [show 3 + i * 3 = 3 * (i + 1) by omega]; exact cell_later bel (HH2.out (i + 1) hlt)
        have hl1 := loI_le x i
        have hl2 := hiI_le x i
        have ba := below_alloc wr (.cells #[.bool (x (i + 1)).s, .slice (ao (i + 1)) (Dg.dg 4294967296 (x (i + 1)).n).length (ca (i + 1)), .int .i64 (x (i + 1)).e] 105)
        have r1 := loc_new wr (.bool (x (i + 1)).s) (.slice (ao (i + 1)) (Dg.dg 4294967296 (x (i + 1)).n).length (ca (i + 1))) (.int .i64 (x (i + 1)).e) 105
        have bel1 := below_trans bel ba
        have hrp : Q ≠ wr.heap.size := by have := lp.1; omega
        have hrq : P ≠ wr.heap.size := by have := lq.1; omega
        have lp1 := lp.later ba
        have lq1 := lq.later ba
        have lk1 := lk.later ba
        clear lp lq lk ba
        obtain ⟨-, ⟨p0, p1, p2⟩, -⟩ := id lp1
        go_wp2_with fail
        refine (HHC.out (i + 1) (loI x i) _ hlt (by omega) bel1).mono ?_
        rintro z w2 ⟨rfl, b2⟩
        have bel2 := below_trans bel1 b2
        have lp2 := lp1.later b2
        have lq2 := lq1.later b2
        have lk2 := lk1.later b2
        have r2 := r1.later b2
        clear p0 p1 p2 lp1 lq1 lk1 r1 b2 bel1 d0 d1 d2
        generalize wr.heap.size = R at hrp hrq r2 ⊢
        obtain ⟨-, ⟨e0, e1, e2⟩, -⟩ := id r2
        by_cases hc : cmpT (x (i + 1)) (x (loI x i)) < 0
        · have hI := loI_pos hc
          generalize cmpT (x (i + 1)) (x (loI x i)) = c1 at hc ⊢
          obtain ⟨hpl, ⟨p0, p1, p2⟩, f0, f1, f2⟩ := id lp2
          obtain ⟨-, ⟨q0, q1, q2⟩, -⟩ := id (lq2.apart (c := Q) (by omega) (.bool (x (i + 1)).s) (.slice (ao (i + 1)) (Dg.dg 4294967296 (x (i + 1)).n).length (ca (i + 1))) (.int .i64 (x (i + 1)).e))
          obtain ⟨-, ⟨s0, s1, s2⟩, -⟩ := id (r2.apart (c := Q) (by omega) (.bool (x (i + 1)).s) (.slice (ao (i + 1)) (Dg.dg 4294967296 (x (i + 1)).n).length (ca (i + 1))) (.int .i64 (x (i + 1)).e))
          have lp3 := loc_set lp2 (.bool (x (i + 1)).s) (.slice (ao (i + 1)) (Dg.dg 4294967296 (x (i + 1)).n).length (ca (i + 1))) (.int .i64 (x (i + 1)).e)
          have lq3 := lq2.apart (c := Q) (by omega) (.bool (x (i + 1)).s) (.slice (ao (i + 1)) (Dg.dg 4294967296 (x (i + 1)).n).length (ca (i + 1))) (.int .i64 (x (i + 1)).e)
          have r3 := r2.apart (c := Q) (by omega) (.bool (x (i + 1)).s) (.slice (ao (i + 1)) (Dg.dg 4294967296 (x (i + 1)).n).length (ca (i + 1))) (.int .i64 (x (i + 1)).e)
          have lk3 := lk2.apart3 (c := Q) (by omega) (.bool (x (i + 1)).s) (.slice (ao (i + 1)) (Dg.dg 4294967296 (x (i + 1)).n).length (ca (i + 1))) (.int .i64 (x (i + 1)).e)
          have bel3 := below_set3 bel2 (b := Q) (by omega) (.bool (x (i + 1)).s) (.slice (ao (i + 1)) (Dg.dg 4294967296 (x (i + 1)).n).length (ca (i + 1))) (.int .i64 (x (i + 1)).e)
          clear lp2 lq2 lk2 r2 bel2
          go_wp2_with fail
          refine (HHC.out (i + 1) (hiI x i) _ hlt (by omega) bel3).mono ?_
          rintro z w4 ⟨rfl, b4⟩
          have bel4 := below_trans bel3 b4
          have lp4 := lp3.later b4
          have lq4 := lq3.later b4
          have lk4 := lk3.later b4
          have r4 := r3.later b4
          clear lp3 lq3 lk3 r3 bel3 b4
          obtain ⟨-, ⟨t0, t1, t2⟩, -⟩ := id r4
          by_cases hd : 0 < cmpT (x (i + 1)) (x (hiI x i))
          · have hJ := hiI_pos hd
            generalize cmpT (x (i + 1)) (x (hiI x i)) = c2 at hd ⊢
            obtain ⟨hql, ⟨q0, q1, q2⟩, g0, g1, g2⟩ := id lq4
            have lq5 := loc_set lq4 (.bool (x (i + 1)).s) (.slice (ao (i + 1)) (Dg.dg 4294967296 (x (i + 1)).n).length (ca (i + 1))) (.int .i64 (x (i + 1)).e)
            have lp5 := lp4.apart (c := P) (by omega) (.bool (x (i + 1)).s) (.slice (ao (i + 1)) (Dg.dg 4294967296 (x (i + 1)).n).length (ca (i + 1))) (.int .i64 (x (i + 1)).e)
            have lk5 := lk4.apart3 (c := P) (by omega) (.bool (x (i + 1)).s) (.slice (ao (i + 1)) (Dg.dg 4294967296 (x (i + 1)).n).length (ca (i + 1))) (.int .i64 (x (i + 1)).e)
            have bel5 := below_set3 bel4 (b := P) (by omega) (.bool (x (i + 1)).s) (.slice (ao (i + 1)) (Dg.dg 4294967296 (x (i + 1)).n).length (ca (i + 1))) (.int .i64 (x (i + 1)).e)
            clear lp4 lq4 lk4 r4 bel4
            go_wp2
            go_roundw
            case rel => exact ⟨i + 1, by omega, by go_num, bel5, by rw [hI]; exact lp5, by rw [hJ]; exact lq5, lk5⟩
            case measure => simp [intOf]; omega
          · have hJ := hiI_neg hd
            generalize cmpT (x (i + 1)) (x (hiI x i)) = c2 at hd ⊢
            clear r4
            go_wp2
            go_roundw
            case rel => exact ⟨i + 1, by omega, by go_num, bel4, by rw [hI]; exact lp4, by rw [hJ]; exact lq4, lk4⟩
            case measure => simp [intOf]; omega
        · have hI := loI_neg hc
          generalize cmpT (x (i + 1)) (x (loI x i)) = c1 at hc ⊢
          obtain ⟨-, ⟨q0, q1, q2⟩, -⟩ := id lq2
          go_wp2_with fail
          refine (HHC.out (i + 1) (hiI x i) _ hlt (by omega) bel2).mono ?_
          rintro z w4 ⟨rfl, b4⟩
          have bel4 := below_trans bel2 b4
          have lp4 := lp2.later b4
          have lq4 := lq2.later b4
          have lk4 := lk2.later b4
          have r4 := r2.later b4
          clear lp2 lq2 lk2 r2 bel2 b4
          obtain ⟨-, ⟨t0, t1, t2⟩, -⟩ := id r4
          by_cases hd : 0 < cmpT (x (i + 1)) (x (hiI x i))
          · have hJ := hiI_pos hd
            generalize cmpT (x (i + 1)) (x (hiI x i)) = c2 at hd ⊢
            obtain ⟨hql, ⟨q0, q1, q2⟩, g0, g1, g2⟩ := id lq4
            have lq5 := loc_set lq4 (.bool (x (i + 1)).s) (.slice (ao (i + 1)) (Dg.dg 4294967296 (x (i + 1)).n).length (ca (i + 1))) (.int .i64 (x (i + 1)).e)
            have lp5 := lp4.apart (c := P) (by omega) (.bool (x (i + 1)).s) (.slice (ao (i + 1)) (Dg.dg 4294967296 (x (i + 1)).n).length (ca (i + 1))) (.int .i64 (x (i + 1)).e)
            have lk5 := lk4.apart3 (c := P) (by omega) (.bool (x (i + 1)).s) (.slice (ao (i + 1)) (Dg.dg 4294967296 (x (i + 1)).n).length (ca (i + 1))) (.int .i64 (x (i + 1)).e)
            have bel5 := below_set3 bel4 (b := P) (by omega) (.bool (x (i + 1)).s) (.slice (ao (i + 1)) (Dg.dg 4294967296 (x (i + 1)).n).length (ca (i + 1))) (.int .i64 (x (i + 1)).e)
            clear lp4 lq4 lk4 r4 bel4
            go_wp2
            go_roundw
            case rel => exact ⟨i + 1, by omega, by go_num, bel5, by rw [hI]; exact lp5, by rw [hJ]; exact lq5, lk5⟩
            case measure => simp [intOf]; omega
          · have hJ := hiI_neg hd
            generalize cmpT (x (i + 1)) (x (hiI x i)) = c2 at hd ⊢
            clear r4
            go_wp2
            go_roundw
            case rel => exact ⟨i + 1, by omega, by go_num, bel4, by rw [hI]; exact lp4, by rw [hJ]; exact lq4, lk4⟩
            case measure => simp [intOf]; omega
      · have hmi : m - 1 = i := by omega
        rw [hmi]
        have hl1 := loI_le x i
        have hl2 := hiI_le x i
        obtain ⟨-, ⟨p0, p1, p2⟩, -⟩ := id lp
        go_wp2_with fail
        refine (HHU.out (loI x i) false wr (by omega) bel).mono ?_
        rintro z w3 ⟨v3, rfl, r3, b3⟩
        have b03 := below_trans bel b3
        have q3 := lq.later b3
        have k3 := lk.later b3
        have S3 := HHS.out (loI x i) false _ w3 (by omega) b03 ⟨v3, rfl, r3⟩
        clear bel lp lq lk b3 p0 p1 p2
        change Calls _ _ _ _ (DAns w3 (shortT (cutT (loT x i) n false))) at S3
        obtain ⟨⟨⟨rs, rn, re⟩, c⟩, hr⟩ : ∃ r, shortT (cutT (loT x i) n false) = r := ⟨_, rfl⟩
        rw [hr] at S3 ⊢
        go_wp2_with fail
        refine S3.mono ?_
        rintro z w4 ⟨v4, rfl, o4, b4⟩
        have b04 := below_trans b03 b4
        have q4 := q3.later b4
        have k4 := k3.later b4
        have hws : w.heap.size < w3.heap.size := k3.1
        have o4 := o4.lower (show w.heap.size + 1 ≤ w3.heap.size by omega)
        clear S3 r3 b03 q3 k3 b4
        obtain ⟨ao4, c4, h4⟩ := o4.rd.shape
        subst h4
        simp only at o4 ⊢
        have b5 := below_alloc w4 (.cells #[.bool rs, .slice ao4 (Dg.dg 4294967296 rn).length c4, .int .i64 re] 25)
        have a5 := loc_new w4 (.bool rs) (.slice ao4 (Dg.dg 4294967296 rn).length c4) (.int .i64 re) 25
        have b05 := below_trans b04 b5
        have q5 := q4.later b5
        have k5 := k4.later b5
        have o5 := o4.later b5
        clear b04 q4 k4 b5 o4
        obtain ⟨-, ⟨p0, p1, p2⟩, -⟩ := id q5
        by_cases hc : c = 0
        · subst hc
          go_wp2_with fail
          refine (HHU.out (hiI x i) true _ (by omega) b05).mono ?_
          rintro z w6 ⟨v6, rfl, r6, b6⟩
          have b06 := below_trans b05 b6
          have a6 := a5.later b6
          have k6 := k5.later b6
          have o6 := o5.later b6
          have S6 := HHS.out (hiI x i) true _ w6 (by omega) b06 ⟨v6, rfl, r6⟩
          clear b05 a5 k5 q5 b6 o5 p0 p1 p2
          change Calls _ _ _ _ (DAns w6 (shortT (cutT (hiT x i) n true))) at S6
          obtain ⟨⟨⟨qs, qn, qe⟩, d⟩, hq⟩ : ∃ r, shortT (cutT (hiT x i) n true) = r := ⟨_, rfl⟩
          rw [hq] at S6 ⊢
          go_wp2_with fail
          refine S6.mono ?_
          rintro z w7 ⟨v7, rfl, o7, b7⟩
          have b07 := below_trans b06 b7
          have a7 := a6.later b7
          have k7 := k6.later b7
          have o67 := o6.later b7
          have hws6 : w.heap.size < w6.heap.size := k6.1
          have o7 := o7.lower (show w.heap.size + 1 ≤ w6.heap.size by omega)
          clear b06 a6 k6 o6 b7 r6 S6
          obtain ⟨ao7, c7, h7⟩ := o7.rd.shape
          subst h7
          simp only at o7 ⊢
          have b8 := below_alloc w7 (.cells #[.bool qs, .slice ao7 (Dg.dg 4294967296 qn).length c7, .int .i64 qe] 25)
          have e8 := loc_new w7 (.bool qs) (.slice ao7 (Dg.dg 4294967296 qn).length c7) (.int .i64 qe) 25
          have bX := below_trans b07 b8
          have a8 := a7.later b8
          have kX := k7.later b8
          have o68 := o67.later b8
          have o78 := o7.later b8
          clear b07 a7 k7 b8 o67 o7
          by_cases hd : d = 0
          · subst hd
            have hR : ballR (⟨rs, rn, re⟩, 0) (⟨qs, qn, qe⟩, 0) = (⟨rs, rn, re⟩, ⟨qs, qn, qe⟩, 0) := by simp [ballR]
            obtain ⟨-, ⟨i0, i1, i2⟩, -⟩ := id a8
            obtain ⟨-, ⟨j0, j1, j2⟩, -⟩ := id e8
            obtain ⟨hl, ⟨v0, v1, v2, v3, v4, v5⟩, f0, f1, f2, f3, f4, f5⟩ := id kX
            go_wp2
            obtain ⟨-, ⟨u0, u1, u2, u3, u4, u5⟩, -⟩ := loc6_set kX (.bool rs) (.slice ao4 (Dg.dg 4294967296 rn).length c4) (.int .i64 re) (.bool qs) (.slice ao7 (Dg.dg 4294967296 qn).length c7) (.int .i64 qe)
            have bb := below_set6 bX (show w.heap.size ≤ w.heap.size by omega) (.bool rs) (.slice ao4 (Dg.dg 4294967296 rn).length c4) (.int .i64 re) (.bool qs) (.slice ao7 (Dg.dg 4294967296 qn).length c7) (.int .i64 qe)
            refine bodyPost_ret (v := .tuple #[.agg #[.bool rs, .slice ao4 (Dg.dg 4294967296 rn).length c4, .int .i64 re, .bool qs, .slice ao7 (Dg.dg 4294967296 qn).length c7, .int .i64 qe], .int .i64 0]) (by simp [results, Tryd.results91, go_sem, u0, u1, u2, u3, u4, u5]) rfl ?_
            try rw [hR]
            exact ⟨_, _, rfl, (o68.apart6 (by omega) _ _ _ _ _ _).lower (by omega), (o78.apart6 (by omega) _ _ _ _ _ _).lower (by omega), bb⟩
          · have hR : ballR (⟨rs, rn, re⟩, 0) (⟨qs, qn, qe⟩, d) = (⟨false, 0, 0⟩, ⟨false, 0, 0⟩, d) := by simp [ballR, hd]
            obtain ⟨hl, ⟨v0, v1, v2, v3, v4, v5⟩, f0, f1, f2, f3, f4, f5⟩ := id kX
            go_wp2
            obtain ⟨-, ⟨u0, u1, u2, u3, u4, u5⟩, -⟩ := loc6_set kX (.bool false) (.slice none 0 0) (.int .i64 0) (.bool false) (.slice none 0 0) (.int .i64 0)
            have bb := below_set6 bX (show w.heap.size ≤ w.heap.size by omega) (.bool false) (.slice none 0 0) (.int .i64 0) (.bool false) (.slice none 0 0) (.int .i64 0)
            refine bodyPost_ret (v := .tuple #[.agg #[.bool false, .slice none 0 0, .int .i64 0, .bool false, .slice none 0 0, .int .i64 0], .int .i64 d]) (by simp [results, Tryd.results91, go_sem, u0, u1, u2, u3, u4, u5]) rfl ?_
            try rw [hR]
            exact ⟨_, _, rfl, own_nil _ _ _ _, own_nil _ _ _ _, bb⟩
        · have hR : ballR (⟨rs, rn, re⟩, c) (shortT (cutT (hiT x i) n true)) = (⟨false, 0, 0⟩, ⟨false, 0, 0⟩, c) := by simp [ballR, hc]
          have kX := k5
          have bX := b05
          obtain ⟨hl, ⟨v0, v1, v2, v3, v4, v5⟩, f0, f1, f2, f3, f4, f5⟩ := id kX
          go_wp2
          obtain ⟨-, ⟨u0, u1, u2, u3, u4, u5⟩, -⟩ := loc6_set kX (.bool false) (.slice none 0 0) (.int .i64 0) (.bool false) (.slice none 0 0) (.int .i64 0)
          have bb := below_set6 bX (show w.heap.size ≤ w.heap.size by omega) (.bool false) (.slice none 0 0) (.int .i64 0) (.bool false) (.slice none 0 0) (.int .i64 0)
          refine bodyPost_ret (v := .tuple #[.agg #[.bool false, .slice none 0 0, .int .i64 0, .bool false, .slice none 0 0, .int .i64 0], .int .i64 c]) (by simp [results, Tryd.results91, go_sem, u0, u1, u2, u3, u4, u5]) rfl ?_
          try rw [hR]
          exact ⟨_, _, rfl, own_nil _ _ _ _, own_nil _ _ _ _, bb⟩
end Go.Proofs.YtogfpdabpakfpaaDoor

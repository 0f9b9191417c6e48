/-
  Texts laid together: Eg3.
-/
import Derived.Deep.Cut
import Derived.Test.YtiiphandhpilgaaGreatDoorEa49
namespace Go.Proofs.YtiiphandhpilgaaGreatDoor
open Go.RowKit
set_option maxRecDepth 100000 in
set_option maxHeartbeats 6400000 in
theorem encodes_W (n c : Int) (ng : Bool) (ao : Option Addr) (la ca : Nat) (p : Int) (st : ByteArray) (er rc : Int) (rg : Bool) (rx : Trip) (w : World)
    (HE : ∀ w1, Below w.heap.size w w1 → Calls Tryz.prog 6 #[.int .i64 n, .agg #[.int .i64 c, .bool ng, .slice ao la ca, .int .i64 p]] w1 fun z w' => z = .returned (.tuple #[.string st, .int .i64 er]) ∧ Below w1.heap.size w1 w')
    (HB : ∀ w1, Below w.heap.size w w1 → Calls Tryz.prog 7 #[.int .i64 n, .agg #[.int .i64 c, .bool ng, .slice ao la ca, .int .i64 p]] w1 (REnc w1 rc rg rx er))
    (HO : er = 0 → ∀ so sc w1, Rd w1 .i64 (.slice so (Dg.dg 65536 rx.n).length sc) (Dg.dg 65536 rx.n) → Calls Tryz.prog 8 #[.int .i64 n, .agg #[.int .i64 rc, .bool rg, .bool rx.s, .slice so (Dg.dg 65536 rx.n).length sc, .int .i64 rx.e]] w1 fun z w' => z = .returned (.string st) ∧ Below w1.heap.size w1 w')
    (HZ : er ≠ 0 → st = ⟨#[]⟩) :
    Calls Tryz.prog 3 #[.int .i64 n, .agg #[.int .i64 c, .bool ng, .slice ao la ca, .int .i64 p]] w fun z w' => z = .returned (.bool true) ∧ Below w.heap.size w w' := by
  replace HE : Hid _ := HE
  replace HB : Hid _ := HB
  replace HO : Hid _ := HO
  replace HZ : Hid _ := HZ
  have HG : Hid (∀ w1, Calls Tryz.prog 9 #[] w1 fun z w' => z = .returned (.bool true) ∧ Below w1.heap.size w1 w') := codecBegun_any
  have b0 := below_alloc w (.cells #[.int .i64 c, .bool ng, .slice ao la ca, .int .i64 p] 25)
  have q0 := locE_new w [.int .i64 c, .bool ng, .slice ao la ca, .int .i64 p] 25
  go_enter Tryz.func3, Tryz.ntmps3
  go_wp2_with fail
  refine (HE.out _ b0).mono ?_
  rintro z w1 ⟨rfl, b1⟩
  have q1 := q0.later b1
  have b01 := below_trans b0 b1
  clear q0 b0 b1 HE
  have y0 := q1.cell 0 rfl
  have y1 := q1.cell 1 rfl
  have y2 := q1.cell 2 rfl
  have y3 := q1.cell 3 rfl
  go_wp2_with fail
  refine (HB.out _ b01).mono ?_
  rintro z w2 ⟨sv, rfl, r2, b2⟩
  obtain ⟨so, sc, hv⟩ := r2.shape
  subst hv
  have ba := below_alloc w2 (.cells #[.int .i64 rc, .bool rg, .bool rx.s, .slice so (Dg.dg 65536 rx.n).length sc, .int .i64 rx.e] 33)
  have l2 := locE_new w2 [.int .i64 rc, .bool rg, .bool rx.s, .slice so (Dg.dg 65536 rx.n).length sc, .int .i64 rx.e] 33
  have r3 := r2.later ba
  have b03 := below_trans (below_trans b01 b2) ba
  clear y0 y1 y2 y3 q1 b01 b2 ba r2 HB
  go_upto_region 3 with fail
  generalize w2.alloc (.cells #[.int .i64 rc, .bool rg, .bool rx.s, .slice so (Dg.dg 65536 rx.n).length sc, .int .i64 rx.e] 33) = w3 at l2 r3 b03 ⊢
  generalize w2.heap.size = bx at l2 ⊢
  by_cases he : er = 0
  · have HO1 : Hid _ := HO.out he _ _ _ r3
    subst he
    have y0 := l2.cell 0 rfl
    have y1 := l2.cell 1 rfl
    have y2 := l2.cell 2 rfl
    have y3 := l2.cell 3 rfl
    have y4 := l2.cell 4 rfl
    clear HO HZ
    go_wp2_with fail
    refine Calls.mono HO1.out ?_
    rintro z w4 ⟨rfl, b4⟩
    have b04 := below_trans b03 b4
    clear HO1 b03 b4 l2 r3 y0 y1 y2 y3 y4
    go_wp2_with fail
    refine (HG.out _).mono ?_
    rintro z w5 ⟨rfl, b5⟩
    go_wp2
    go_ret
    exact ⟨rfl, below_trans b04 b5⟩
  · have hs := HZ.out he
    subst hs
    have he1 : (er == 0) = false := by simpa using he
    clear HO HZ l2 r3
    go_wp2_with fail
    refine (HG.out _).mono ?_
    rintro z w5 ⟨rfl, b5⟩
    go_wp2
    go_ret
    exact ⟨rfl, below_trans b03 b5⟩

theorem enc_vl {xs : List Nat} (hc : chk xs = 0) (hx : xs.length ≠ 0) : Dg.vl 4294967296 xs ≠ 0 := fun h => by
  obtain ⟨n1, -⟩ := chk_zero hc
  exact Dg.vl_ne_zero 4294967296 (by omega) xs (by intro e; subst e; simp at hx) n1 h

theorem bare_sign {s : Bool} {n : Nat} {e : Int} (h : n ≠ 0) : (bare ⟨s, n, e⟩).s = s := by
  unfold bare
  rw [if_neg h]

/-- The number that Encode makes of a value, where it tells no error. -/
theorem enc_bare {k : Nat} {ng : Bool} {xs : List Nat} {p : Int} (hx : chk xs = 0) (hl : xs.length ≠ 0) (hp : ¬ (p < -20000 ∨ 20000 < p)) (sa : Dg.Small 4294967296 xs) (hE : enE k ng xs p = 0) :
    (enN k ng xs p).1 = bare ⟨ng, Dg.vl 4294967296 xs, (widthN (rdN k : Int) : Int) * p⟩ ∧ (Dg.dg 65536 (bare ⟨ng, Dg.vl 4294967296 xs, (widthN (rdN k : Int) : Int) * p⟩).n).length ≤ 20000 ∧ -79000 ≤ (bare ⟨ng, Dg.vl 4294967296 xs, (widthN (rdN k : Int) : Int) * p⟩).e ∧ (bare ⟨ng, Dg.vl 4294967296 xs, (widthN (rdN k : Int) : Int) * p⟩).e ≤ 200000 := by
  have h2 : (enN k ng xs p).2 = 0 := by
    refine Decidable.byContradiction fun c => ?_
    unfold enE at hE
    rw [if_neg hp, if_neg hl, if_neg (fun h => c h.1)] at hE
    omega
  have hr := en_short (show dbothR (placeC xs p (rdN k : Int) (dgN k : Int) (lsI k) (gsI k)) ⟨ng, Dg.vl 4294967296 xs, (widthN (rdN k : Int) : Int) * p⟩ = ((enN k ng xs p).1, 0) from Prod.ext rfl h2)
  have hd := hr.2
  rw [hr.1] at hd
  obtain ⟨-, e1, e2⟩ := dchk_zero hd
  have hb := bare_small (t := ⟨ng, Dg.vl 4294967296 xs, (widthN (rdN k : Int) : Int) * p⟩) (enc_vl hx hl)
  have hl2 := len_two sa (chk_zero hx).2
  refine ⟨hr.1, Nat.le_trans hb.1 ?_, by omega, by omega⟩
  show (Dg.dg 65536 (Dg.vl 4294967296 xs)).length ≤ 20000
  omega

theorem codecEncodes_walk (n c : Int) (ng : Bool) (ao : Option Addr) (ca : Nat) (xs : List Nat) (p : Int) (w : World) (hr : Rd w .u32 (.slice ao xs.length ca) xs) (sa : Dg.Small 4294967296 xs) (hT : Tab w) :
    Calls Tryz.prog 3 #[.int .i64 n, .agg #[.int .i64 c, .bool ng, .slice ao xs.length ca, .int .i64 p]] w fun z w' => z = .returned (.bool true) ∧ Below w.heap.size w w' := by
  refine encodes_W n c ng ao xs.length ca p (encS n c ng xs p) (encE n c ng xs p) (ebC n c ng xs p) (ebG n c ng xs p) (ebT n c ng xs p) w (fun w1 b => encode_any n c ng ao ca xs p w1 (hr.later b) sa (hT.later b)) (fun w1 b => encodable_any n c ng ao ca xs p w1 (hr.later b) sa) ?_ ?_
  · intro hE so sc w1 h1
    unfold ebT at h1
    unfold ebC ebG ebT
    rw [if_pos hE] at h1
    rw [if_pos hE, if_pos hE, if_pos hE]
    by_cases hf : famC n = 0 ∨ c < 1 ∨ 5 < c
    · unfold encE at hE
      rw [if_pos hf] at hE
      omega
    · have hf0 : famC n ≠ 0 := fun h => hf (.inl h)
      obtain ⟨k1, k2, k3⟩ := famC_in hf0
      obtain ⟨k, rfl⟩ : ∃ k : Nat, n = (k : Int) := ⟨n.toNat, k3.symm⟩
      rw [Int.toNat_natCast] at k1 k2
      have hk : 1 ≤ k ∧ k ≤ 8 := ⟨k1, k2⟩
      by_cases hx : chk xs = 0
      · unfold encE at hE
        rw [if_neg hf, if_neg (fun h => h hx)] at hE
        unfold encS
        rw [if_neg hf, if_neg (fun h => h hx)]
        rw [Int.toNat_natCast] at hE ⊢
        unfold ebX at h1 ⊢
        by_cases hc : c = 2
        · rw [if_pos hc] at hE h1 ⊢
          rw [if_pos hc]
          rw [Int.toNat_natCast] at h1 ⊢
          subst hc
          have hp : ¬ (p < -20000 ∨ 20000 < p) := fun h => by
            unfold enE at hE
            rw [if_pos h] at hE
            omega
          have hl : xs.length ≠ 0 := fun h => by
            unfold enE at hE
            rw [if_neg hp, if_pos h] at hE
            omega
          have hvn := enc_vl hx hl
          have hnum := num_held hk (ng := ng) hx hl hp
          have hbn : (bare ⟨ng, Dg.vl 4294967296 xs, (widthN (rdN k : Int) : Int) * p⟩).n ≠ 0 := fun hv => hvn ((bareN_nil _).1 hv)
          obtain ⟨hbr, hbs⟩ := enc_bare (k := k) (ng := ng) hx hl hp sa hE
          have hin : inR (rdN k : Int) (dgN k : Int) (lsI k) (gsI k) (decide (k ≤ 3)) (bare ⟨ng, Dg.vl 4294967296 xs, (widthN (rdN k : Int) : Int) * p⟩).n (bare ⟨ng, Dg.vl 4294967296 xs, (widthN (rdN k : Int) : Int) * p⟩).e = true := by
            refine Decidable.byContradiction fun c => ?_
            rw [hE, if_neg c] at hnum
            omega
          unfold enS
          rw [if_pos hE, hbr]
          obtain ⟨hb1, hb2, hb3⟩ := hbs
          have hheld : heldB (rdN k : Int) (dgN k : Int) (lsI k) (gsI k) (decide (k ≤ 3)) (bare ⟨ng, Dg.vl 4294967296 xs, (widthN (rdN k : Int) : Int) * p⟩).n (bare ⟨ng, Dg.vl 4294967296 xs, (widthN (rdN k : Int) : Int) * p⟩).e = true := by
            rw [held_bare _ _ (fmt_fit hk).2.2.2.2.2.2.1, ← held_in _ _ (fmt_fit hk).2.2.2.2.2.2.1]
            exact hin
          have hs : (plT k (bare ⟨ng, Dg.vl 4294967296 xs, (widthN (rdN k : Int) : Int) * p⟩).s (bare ⟨ng, Dg.vl 4294967296 xs, (widthN (rdN k : Int) : Int) * p⟩).n (bare ⟨ng, Dg.vl 4294967296 xs, (widthN (rdN k : Int) : Int) * p⟩).e).s = ng := by
            have := (held_place (s := (bare ⟨ng, Dg.vl 4294967296 xs, (widthN (rdN k : Int) : Int) * p⟩).s) (way := 3) (by have := (fmt_fit hk).2.2.1; omega) (fmt_fit hk).2.2.2.2.2.2.1 hbn hheld).1
            unfold plT
            rw [this]
            exact bare_sign hvn
          rw [hs]
          exact encodeOf_num k hk ng _ _ so _ sc _ w1 h1 hb1 hb2 hb3 hbn hheld
        · rw [if_neg hc] at hE h1 ⊢
          rw [if_neg hc]
          obtain ⟨m, hm⟩ : ∃ m : Nat, c = (m : Int) := ⟨c.toNat, by omega⟩
          subst hm
          rw [Int.toNat_natCast] at hE ⊢
          have h4 : m = 1 ∨ m = 3 ∨ m = 4 ∨ m = 5 := by omega
          have hs : spcOk k m = true := by
            refine Decidable.byContradiction fun c => ?_
            unfold othE at hE
            rw [if_pos (by simpa using c)] at hE
            omega
          unfold othS
          rw [if_pos hE]
          exact encodeOf_oth k m hk h4 hs ng false so 0 sc 0 w1
      · unfold encE at hE
        rw [if_neg hf, if_pos hx] at hE
        exact absurd hE hx
  · intro hE
    unfold encS
    unfold encE at hE
    by_cases hf : famC n = 0 ∨ c < 1 ∨ 5 < c
    · rw [if_pos hf]
    · rw [if_neg hf] at hE ⊢
      by_cases hx : chk xs = 0
      · rw [if_neg (fun h => h hx)] at hE ⊢
        by_cases hc : c = 2
        · rw [if_pos hc] at hE ⊢
          unfold enS
          rw [if_neg hE]
        · rw [if_neg hc] at hE ⊢
          unfold othS
          rw [if_neg hE]
      · rw [if_pos hx]
end Go.Proofs.YtiiphandhpilgaaGreatDoor

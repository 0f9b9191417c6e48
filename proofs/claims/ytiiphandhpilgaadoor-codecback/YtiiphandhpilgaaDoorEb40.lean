/-
  Texts laid together: Eb3, Eb4, GrP, GrQ, GrV, DyCom.
-/
import Derived.WalkKit
import Derived.ProofKit
import Derived.OpenShut
import Derived.ShutString
import Derived.ChangeOld
import Derived.Below
import Derived.Test.YtiiphandhpilgaaDoorRows
import Derived.Test.YtiiphandhpilgaaDoorTie
import Derived.Test.YtiiphandhpilgaaDoorCards
import Derived.LaidMore
import Derived.SevenTiedAt
import Derived.Lib.SmallJoins
import Derived.Lib.LaidTab
import Derived.Test.YtiiphandhpilgaaDoorEb39
import Derived.Test.YtiiphandhpilgaaDoorEb28
import Derived.Test.YtiiphandhpilgaaDoorEb03
import Derived.Test.YtiiphandhpilgaaDoorEb05
namespace Go.Proofs.YtiiphandhpilgaaDoor
open Go.RowKit
theorem oth_fields {k m : Nat} (hk : 1 ≤ k ∧ k ≤ 8) (hm : m = 1 ∨ m = 3 ∨ m = 4 ∨ m = 5) (g : Bool) (hs : spcOk k m = true) (hg : g = true → sgnOk k m = true) :
    spcE k m < 2 ^ exN k ∧ spcF k m < 2 ^ frN k ∧ clsN k (spcG k m || g) (spcE k m) (spcF k m) = m ∧ valG k (spcG k m || g) (spcE k m) (spcF k m) = g := by
  revert hs hg
  rcases eight hk with rfl | rfl | rfl | rfl | rfl | rfl | rfl | rfl <;> rcases hm with rfl | rfl | rfl | rfl <;> cases g <;> decide

theorem patC_ok {k : Nat} (hk : 1 ≤ k ∧ k ≤ 8) {s : ByteArray} (h : s.size = szN k) : patC (k : Int) s = 0 := by
  have hf : famC (k : Int) ≠ 0 := by
    rcases eight hk with rfl | rfl | rfl | rfl | rfl | rfl | rfl | rfl <;> decide
  unfold patC
  rw [if_neg hf, Int.toNat_natCast, if_pos h]

/-- What Encode wrote without an error, Decode tells. -/
theorem enc_dec {k : Nat} (hk : 1 ≤ k ∧ k ≤ 8) {c : Int} {ng : Bool} {xs : List Nat} {p : Int} (sa : Dg.Small 4294967296 xs) (h : encE (k : Int) c ng xs p = 0) :
    (encS (k : Int) c ng xs p).size = szN k ∧ ((clsN k (fldN k (encS (k : Int) c ng xs p)) (fldE k (encS (k : Int) c ng xs p)) (fldF k (encS (k : Int) c ng xs p)) : Nat) : Int) = c ∧ valG k (fldN k (encS (k : Int) c ng xs p)) (fldE k (encS (k : Int) c ng xs p)) (fldF k (encS (k : Int) c ng xs p)) = ng ∧
      fldE k (encS (k : Int) c ng xs p) < 2 ^ exN k ∧ fldF k (encS (k : Int) c ng xs p) < 2 ^ frN k ∧
      (c = 2 → chk xs = 0 ∧ fldN k (encS (k : Int) c ng xs p) = ng ∧ plcN k (fldE k (encS (k : Int) c ng xs p)) (fldF k (encS (k : Int) c ng xs p)) ≠ 0 ∧ bare ⟨ng, plcN k (fldE k (encS (k : Int) c ng xs p)) (fldF k (encS (k : Int) c ng xs p)), (widthN (rdN k : Int) : Int) * plcP k (fldE k (encS (k : Int) c ng xs p))⟩ = bare ⟨ng, Dg.vl 4294967296 xs, (widthN (rdN k : Int) : Int) * p⟩) ∧
      (c ≠ 2 → xs.length = 0 ∧ p = 0) := by
  by_cases hf : famC (k : Int) = 0 ∨ c < 1 ∨ 5 < c
  · unfold encE at h
    rw [if_pos hf] at h
    omega
  · by_cases hx : chk xs = 0
    · unfold encE at h
      rw [if_neg hf, if_neg (fun q => q hx)] at h
      unfold encS
      rw [if_neg hf, if_neg (fun q => q hx)]
      rw [Int.toNat_natCast] at h ⊢
      by_cases hc : c = 2
      · rw [if_pos hc] at h ⊢
        obtain ⟨e1, e2, e3, e4, e5, e6, e7⟩ := enc_fields hk sa hx h
        rw [e2]
        refine ⟨e1, by rw [e5, hc]; rfl, by unfold valG; rw [if_pos (by omega)], e3, e4, fun _ => ⟨hx, rfl, e6, e7⟩, fun q => absurd hc q⟩
      · rw [if_neg hc] at h ⊢
        obtain ⟨m, hm⟩ : ∃ m : Nat, c = (m : Int) := ⟨c.toNat, by omega⟩
        subst hm
        rw [Int.toNat_natCast] at h ⊢
        have h4 : m = 1 ∨ m = 3 ∨ m = 4 ∨ m = 5 := by omega
        have hs : spcOk k m = true := by
          refine Decidable.byContradiction fun q => ?_
          unfold othE at h
          rw [if_pos (by simpa using q)] at h
          omega
        have hbad : ¬ (0 < xs.length ∨ p ≠ 0 ∨ ng = true ∧ sgnOk k m = false) := fun q => by
          unfold othE at h
          rw [if_neg (by rw [hs]; simp), if_pos q] at h
          omega
        have hg : ng = true → sgnOk k m = true := fun q => by
          refine Decidable.byContradiction fun r => hbad (.inr (.inr ⟨q, by simpa using r⟩))
        obtain ⟨o1, o2, o3, o4⟩ := oth_fields hk h4 ng hs hg
        obtain ⟨w1, w2, w3, w4⟩ := fields_written hk (spcG k m || ng) (spcE k m) (spcF k m)
        rw [Nat.mod_eq_of_lt o1] at w2
        rw [Nat.mod_eq_of_lt o2] at w3
        have hS : othS k m xs.length ng p = strOf (wrtB k (spcG k m || ng) (spcE k m) (spcF k m)) := by
          unfold othS
          rw [if_pos h]
        rw [hS, w1, w2, w3, w4, o3, o4]
        refine ⟨rfl, rfl, rfl, o1, o2, fun q => absurd q hc, fun _ => ⟨?_, ?_⟩⟩
        · rcases Nat.eq_zero_or_pos xs.length with q | q
          · exact q
          · exact absurd (.inl q) hbad
        · exact Decidable.byContradiction fun q => hbad (.inr (.inl q))
    · unfold encE at h
      rw [if_neg hf, if_pos hx] at h
      exact absurd h hx

theorem strip_le (r : Nat) : ∀ (n d : Nat) (p : Int), (stripF r n d p).1 ≤ d
  | 0, d, p => Nat.le_refl _
  | n + 1, d, p => by
    unfold stripF
    split
    · exact Nat.le_trans (strip_le r n _ _) (Nat.div_le_self _ _)
    · exact Nat.le_refl _

/-- A number of one's own, encoded, by its bare form alone. -/
theorem enS_bare {k : Nat} {ng : Bool} {xs ys : List Nat} {p q : Int} (sa : Dg.Small 4294967296 xs) (sb : Dg.Small 4294967296 ys) (hx : chk xs = 0) (hy : chk ys = 0) (h : enE k ng xs p = 0) (h' : enE k ng ys q = 0)
    (hb : bare ⟨ng, Dg.vl 4294967296 ys, (widthN (rdN k : Int) : Int) * q⟩ = bare ⟨ng, Dg.vl 4294967296 xs, (widthN (rdN k : Int) : Int) * p⟩) : enS k ng ys q = enS k ng xs p := by
  have key : ∀ (zs : List Nat) (r : Int), enE k ng zs r = 0 → ¬ (r < -20000 ∨ 20000 < r) ∧ zs.length ≠ 0 := fun zs r hz => by
    have hp : ¬ (r < -20000 ∨ 20000 < r) := fun c => by
      unfold enE at hz
      rw [if_pos c] at hz
      omega
    refine ⟨hp, fun c => ?_⟩
    unfold enE at hz
    rw [if_neg hp, if_pos c] at hz
    omega
  obtain ⟨a1, a2⟩ := key xs p h
  obtain ⟨b1, b2⟩ := key ys q h'
  unfold enS
  rw [if_pos h, if_pos h', (enc_bare (k := k) (ng := ng) hx a2 a1 sa h).1, (enc_bare (k := k) (ng := ng) hy b2 b1 sb h').1, hb]

theorem two_is {k : Nat} (hk : 1 ≤ k ∧ k ≤ 8) {ng : Bool} {ys : List Nat} {q : Int} (hy : chk ys = 0) : encE (k : Int) 2 ng ys q = enE k ng ys q ∧ encS (k : Int) 2 ng ys q = enS k ng ys q := by
  have hf : ¬ (famC (k : Int) = 0 ∨ (2 : Int) < 1 ∨ (5 : Int) < 2) := by
    rcases eight hk with rfl | rfl | rfl | rfl | rfl | rfl | rfl | rfl <;> decide
  unfold encE encS
  rw [if_neg hf, if_neg (fun c => c hy), if_pos rfl, if_neg hf, if_neg (fun c => c hy), if_pos rfl, Int.toNat_natCast]
  exact ⟨rfl, rfl⟩

/-- What is decoded of what was encoded is encoded the same. -/
theorem enc_again {k : Nat} (hk : 1 ≤ k ∧ k ≤ 8) {c : Int} {ng : Bool} {xs : List Nat} {p : Int} (sa : Dg.Small 4294967296 xs) (h : encE (k : Int) c ng xs p = 0) (t : ByteArray) (ht : encS (k : Int) c ng xs p = t) :
    encE (k : Int) c ng (Dg.dg 4294967296 (valM k (fldN k t) (fldE k t) (fldF k t))) (valP k (fldN k t) (fldE k t) (fldF k t)) = 0 ∧ encS (k : Int) c ng (Dg.dg 4294967296 (valM k (fldN k t) (fldE k t) (fldF k t))) (valP k (fldN k t) (fldE k t) (fldF k t)) = t := by
  obtain ⟨e1, e2, e3, e4, e5, e6, e7⟩ := enc_dec hk sa h
  rw [ht] at e1 e2 e3 e4 e5 e6
  by_cases hc : c = 2
  · obtain ⟨hx, hn, h0, hb⟩ := e6 hc
    rw [hn] at e2 ⊢
    have hcl : clsN k ng (fldE k t) (fldF k t) = 2 := by omega
    have hbv := back_value hk e4 e5 (frN_64 hk e5) hcl h0
    rw [hb] at hbv
    have hM0 : valM k ng (fldE k t) (fldF k t) ≠ 0 := fun q => by
      have h1 : (bare ⟨ng, valM k ng (fldE k t) (fldF k t), (widthN (rdN k : Int) : Int) * valP k ng (fldE k t) (fldF k t)⟩).n = 0 := (bareN_nil _).2 q
      rw [hbv, ← hb] at h1
      exact h0 ((bareN_nil _).1 h1)
    subst hc
    obtain ⟨t1, t2⟩ := two_is hk (ng := ng) (q := p) hx
    rw [t1] at h
    rw [t2] at ht
    have hlt : valM k ng (fldE k t) (fldF k t) < 2 ^ 64 := by
      unfold valM
      rw [if_pos hcl]
      exact Nat.lt_of_le_of_lt (strip_le _ _ _ _) (plcN_lt hk _ (frN_64 hk e5))
    have hlen : (Dg.dg 4294967296 (valM k ng (fldE k t) (fldF k t))).length ≤ 2 := two_len hlt (by omega)
    have hcy : chk (Dg.dg 4294967296 (valM k ng (fldE k t) (fldF k t))) = 0 := chk_of (Dg.norm_dg _ _ (by omega)) (by omega)
    obtain ⟨u1, u2⟩ := two_is hk (ng := ng) (q := valP k ng (fldE k t) (fldF k t)) hcy
    have hvl := Dg.vl_dg 4294967296 (valM k ng (fldE k t) (fldF k t)) (by omega)
    have hp : ¬ (p < -20000 ∨ 20000 < p) := fun q => by
      unfold enE at h
      rw [if_pos q] at h
      omega
    have hl : xs.length ≠ 0 := fun q => by
      unfold enE at h
      rw [if_neg hp, if_pos q] at h
      omega
    have hnum := num_held hk (ng := ng) hx hl hp
    have hin : inR (rdN k : Int) (dgN k : Int) (lsI k) (gsI k) (decide (k ≤ 3)) (bare ⟨ng, Dg.vl 4294967296 xs, (widthN (rdN k : Int) : Int) * p⟩).n (bare ⟨ng, Dg.vl 4294967296 xs, (widthN (rdN k : Int) : Int) * p⟩).e = true := by
      refine Decidable.byContradiction fun c => ?_
      rw [h, if_neg c] at hnum
      omega
    obtain ⟨g1, g2⟩ := fmt_ends hk
    have hTn : (bare ⟨ng, Dg.vl 4294967296 xs, (widthN (rdN k : Int) : Int) * p⟩).n ≠ 0 := fun q => enc_vl hx hl ((bareN_nil _).1 q)
    have hTe : -16445 ≤ (bare ⟨ng, Dg.vl 4294967296 xs, (widthN (rdN k : Int) : Int) * p⟩).e ∧ (bare ⟨ng, Dg.vl 4294967296 xs, (widthN (rdN k : Int) : Int) * p⟩).e ≤ 16384 := by
      have := hin
      unfold inR at this
      rcases of_decide_eq_true this with q | q
      · exact absurd q hTn
      · omega
    have hP : ¬ (valP k ng (fldE k t) (fldF k t) < -20000 ∨ 20000 < valP k ng (fldE k t) (fldF k t)) := by
      have hT := refT_num hk e4 e5 hcl
      rw [wdI_nat, hb] at hT
      by_cases hr : rdN k = 2
      · obtain ⟨-, v2⟩ := val2 hk e4 e5 (frN_64 hk e5) hcl hr
        rw [v2, hT]
        omega
      · have hr16 : rdN k = 16 := by rcases eight hk with rfl | rfl | rfl | rfl | rfl | rfl | rfl | rfl <;> revert hr <;> decide
        obtain ⟨v1, v2, -⟩ := val16 hk e4 e5 (frN_64 hk e5) hcl hr16
        rw [hT] at v1 v2
        omega
    have hdl : (Dg.dg 4294967296 (valM k ng (fldE k t) (fldF k t))).length ≠ 0 := fun q => hM0 ((Dg.dg_nil_iff 4294967296 _ (by omega)).1 (List.length_eq_zero_iff.1 q))
    have hE' : enE k ng (Dg.dg 4294967296 (valM k ng (fldE k t) (fldF k t))) (valP k ng (fldE k t) (fldF k t)) = 0 := by
      rw [num_held hk hcy hdl hP, hvl, hbv, if_pos hin]
    refine ⟨by rw [u1]; exact hE', ?_⟩
    rw [u2, ← ht]
    rw [← ht] at hE' hcy hvl hbv
    exact enS_bare sa (Dg.small_dg _ _ (by omega)) hx hcy h hE' (by rw [hvl]; exact hbv)
  · obtain ⟨l0, p0⟩ := e7 hc
    have hcl : clsN k (fldN k t) (fldE k t) (fldF k t) ≠ 2 := fun q => hc (by omega)
    have hxs : xs = [] := List.length_eq_zero_iff.1 l0
    subst hxs
    subst p0
    have hd : Dg.dg 4294967296 0 = [] := (Dg.dg_nil_iff 4294967296 0 (by omega)).2 rfl
    unfold valM valP
    rw [if_neg hcl, if_neg hcl, hd]
    exact ⟨h, ht⟩
end Go.Proofs.YtiiphandhpilgaaDoor
namespace Go.Proofs.YtiiphandhpilgaaDoor
open Go.RowKit
theorem fld_lt (k : Nat) (s : ByteArray) : fldE k s < 2 ^ exN k ∧ fldF k s < 2 ^ frN k := ⟨bitsV_lt _ _ _, bitsV_lt _ _ _⟩

theorem dec_again {k : Nat} (hk : 1 ≤ k ∧ k ≤ 8) {s t : ByteArray}
    (h : encE (k : Int) ((clsN k (fldN k s) (fldE k s) (fldF k s) : Nat) : Int) (valG k (fldN k s) (fldE k s) (fldF k s)) (Dg.dg 4294967296 (valM k (fldN k s) (fldE k s) (fldF k s))) (valP k (fldN k s) (fldE k s) (fldF k s)) = 0)
    (ht : encS (k : Int) ((clsN k (fldN k s) (fldE k s) (fldF k s) : Nat) : Int) (valG k (fldN k s) (fldE k s) (fldF k s)) (Dg.dg 4294967296 (valM k (fldN k s) (fldE k s) (fldF k s))) (valP k (fldN k s) (fldE k s) (fldF k s)) = t) :
    t.size = szN k ∧ clsN k (fldN k t) (fldE k t) (fldF k t) = clsN k (fldN k s) (fldE k s) (fldF k s) ∧ valG k (fldN k t) (fldE k t) (fldF k t) = valG k (fldN k s) (fldE k s) (fldF k s) ∧ valM k (fldN k t) (fldE k t) (fldF k t) = valM k (fldN k s) (fldE k s) (fldF k s) ∧ valP k (fldN k t) (fldE k t) (fldF k t) = valP k (fldN k s) (fldE k s) (fldF k s) := by
  obtain ⟨e1, e2, e3, e4, e5, e6, e7⟩ := enc_dec hk (Dg.small_dg 4294967296 _ (by omega)) h
  rw [ht] at e1 e2 e3 e4 e5 e6
  obtain ⟨s1, s2⟩ := fld_lt k s
  have hcc : clsN k (fldN k t) (fldE k t) (fldF k t) = clsN k (fldN k s) (fldE k s) (fldF k s) := by omega
  refine ⟨e1, hcc, e3, ?_⟩
  by_cases hc : clsN k (fldN k s) (fldE k s) (fldF k s) = 2
  · obtain ⟨-, hn, h0, hb⟩ := e6 (by rw [hc]; rfl)
    have hg : valG k (fldN k s) (fldE k s) (fldF k s) = fldN k s := by
      unfold valG
      rw [if_pos (by omega)]
    rw [hg] at hn hb
    rw [Dg.vl_dg 4294967296 _ (by omega)] at hb
    have hbv := back_value hk s1 s2 (frN_64 hk s2) hc (Nat.ne_of_gt (plcN_pos hc))
    rw [hbv] at hb
    rw [hn] at hcc ⊢
    exact same_value hk e4 e5 (frN_64 hk e5) (by omega) s1 s2 (frN_64 hk s2) hc hb
  · unfold valM valP
    rw [if_neg (by omega), if_neg hc, if_neg (by omega), if_neg hc]
    exact ⟨rfl, rfl⟩
end Go.Proofs.YtiiphandhpilgaaDoor
namespace Go.Proofs.YtiiphandhpilgaaDoor
open Go.ChangeShapes Go.WideShapes Go.ChangeAt Go.RowKit
theorem cellsInt : Tryd.prog.cellsOf 3 = 1 := by kernel_rfl
theorem cellsBool : Tryd.prog.cellsOf 4 = 1 := by kernel_rfl

theorem boolG_of {H : Type} {enc : TypeId × Value → H} {P : Program} {w : World} {base : Nat} {spare : Nat → Bool} {held : Bool} {fuel : Nat} {t : TypeId} {cs : List Value} {x : DataW H × List MemPlace} (ht : P.underlying t = some .bool) (h : DataW.trod enc P w base spare held fuel t cs = some x) : ∃ b, cs = [.bool b] := by
  cases fuel with
  | zero => simp [DataW.trod] at h
  | succ n =>
    unfold DataW.trod at h
    rw [ht] at h
    split at h <;> simp_all

end Go.Proofs.YtiiphandhpilgaaDoor
namespace Go.Proofs.YtiiphandhpilgaaDoor
open Go.ChangeShapes Go.WideShapes Go.ChangeAt Go.RowKit
theorem array4 {α : Type} {cs : Array α} (h : cs.size = 4) : ∃ c0 c1 c2 c3, cs = #[c0, c1, c2, c3] := by
  obtain ⟨l⟩ := cs
  match l, h with
  | [c0, c1, c2, c3], _ => exact ⟨c0, c1, c2, c3, rfl⟩

theorem cellsNat : Tryd.prog.cellsOf 23 = 1 := by kernel_rfl

set_option maxRecDepth 100000 in
theorem open_digits {H : Type} {enc : TypeId × Value → H} {W : World} {n : Nat} {c : Value} {y : DataW H × List MemPlace} (h : DataW.trod enc Tryd.prog W 0 (fun _ => true) true n 23 [c] = some y) :
    ∃ (xs : List Nat) (ao : Option Addr) (ca : Nat), c = .slice ao xs.length ca ∧ Rd W .u32 (.slice ao xs.length ca) xs ∧ Dg.Small 4294967296 xs := by
  rcases open_ints Tryd.underlying23 Tryd.underlying38 (by kernel_rfl) h with ⟨hcs, _⟩ | ⟨x, l, c, zs, hcs, _, hl, hm, hz, _, hcell, hwz⟩
  · simp at hcs
    exact ⟨[], none, 0, hcs, rd_nil _ _, Dg.small_nil _ (by omega)⟩
  · simp at hcs
    obtain ⟨xs, hr, hsm⟩ := rd_of_row (w := W) (a := some x) (len := l) (cap := c) (zs := zs) (.inr ⟨x, rfl, hl, hm, by simpa using hz, hcell, hwz⟩)
    obtain ⟨ao, ca, hv⟩ := hr.shape
    exact ⟨xs, ao, ca, hcs.trans hv, hv ▸ hr, hsm⟩

end Go.Proofs.YtiiphandhpilgaaDoor
namespace Go.Proofs.YtiiphandhpilgaaDoor
open Go.ChangeShapes Go.WideShapes Go.ChangeAt Go.RowKit
theorem cellsV : Tryd.prog.cellsOf 25 = 4 := by kernel_rfl

set_option maxRecDepth 100000 in
theorem open_value {H : Type} {enc : TypeId × Value → H} {W : World} {base : Nat} {v : Value} {d : DataW H} {p : List MemPlace} (hv : Value.okWide Tryd.prog W .any base 25 v) (h : DataW.Trod enc Tryd.prog W 0 (fun _ => true) true 25 v d p) :
    ∃ (c : Int) (s : Bool) (ao : Option Addr) (ca : Nat) (xs : List Nat) (e : Int), v = .agg #[.int .i64 c, .bool s, .slice ao xs.length ca, .int .i64 e] ∧
      Rd W .u32 (.slice ao xs.length ca) xs ∧ Dg.Small 4294967296 xs ∧ (Lit.int .i64 e).wf = true ∧ (Lit.int .i64 c).wf = true := by
  obtain ⟨cs, rfl, hsz⟩ := okWide_struct Tryd.underlying25 hv
  obtain ⟨c0, c1, c2, c3, rfl⟩ := array4 (hsz.trans cellsV)
  obtain ⟨fuel, hf⟩ := h
  obtain ⟨xs, n, _, _, hl, hlen, hff⟩ := DataW.trod_struct Tryd.underlying25 hf
  have h0 := hff 0 _ rfl
  have h1 := hff 1 _ rfl
  have h2 := hff 2 _ rfl
  have h3 := hff 3 _ rfl
  match xs, hlen with
  | [y0, y1, y2, y3], _ =>
    simp [Value.cells, cellsInt, cellsBool, cellsNat] at h0 h1 h2 h3
    obtain ⟨c, e0, -, w0⟩ := DataW.trod_int Tryd.underlying3 h0
    obtain ⟨s, e1⟩ := boolG_of Tryd.underlying4 h1
    obtain ⟨zs, ao, ca, rfl, r2, s2⟩ := open_digits h2
    obtain ⟨e, e3, -, w3⟩ := DataW.trod_int Tryd.underlying3 h3
    simp at e0 e1 e3
    subst e0 e1 e3
    exact ⟨c, s, ao, ca, zs, e, rfl, r2, s2, w3, w0⟩
end Go.Proofs.YtiiphandhpilgaaDoor
namespace Go.Proofs.YtiiphandhpilgaaDoor.dy
open Go.ChangeShapes Go.WideShapes Go.ChangeAt Go.RowKit Go.Joins
theorem own : ownKnob Tryd.prog.godebug = none := by kernel_rfl
theorem laidOut : laidOutB Tryd.prog = true := by kernel_rfl
theorem cellsT : Tryd.prog.cellsOf 132 = 32 := by kernel_rfl
theorem cellsU : Tryd.prog.cellsOf 5 = 1 := by kernel_rfl
theorem gTab : Tryd.prog.globalNamed (Rows.codecBackRow.laid.headD (Rows.codecBackRow.func, .nil)).1 = some 0 := by kernel_rfl
theorem tTab : (Tryd.prog.globals[0]?).map (·.type) = some 132 := by kernel_rfl

/-- The door's own heap meets the condition. -/
theorem door_met (os : Os) (args : Array Value) : laidMetH Tryd.prog Rows.codecBackRow.laid ((World.doorLaid Tryd.prog 400 os).forCall (fun _ _ => 0) ⟨#[], args, []⟩).memory :=
  laidMetH_of_parts3 (fuel := 8) (laidMet_of_run' 8 (by kernel_rfl) (by kernel_rfl)) (by kernel_rfl) (by kernel_rfl)

theorem tab_of_laid {W : World} (h : laidMetH Tryd.prog Rows.codecBackRow.laid W) : Tab W := by
  rw [MakeChecks.laidMetH_plain _ _ _ (by kernel_rfl)] at h
  obtain ⟨ps, ⟨g0, t0, cs0, f0, p0, q0, hg0, ht0, hv0, hd0, _⟩, _⟩ := h
  obtain rfl := Option.some.inj (gTab.symm.trans hg0)
  obtain rfl := Option.some.inj (tTab.symm.trans ht0)
  intro j hj
  have hc := Lib.cells_of_tab (zs := Lib.deBruijn32tab.map (fun n : Nat => (n : Int))) Tryd.underlying132 Tryd.underlying5 cellsU cellsT hd0
  have hv := World.var?_cell hg0 hv0 j
  have hl : j < Lib.deBruijn32tab.length := hj
  rw [hv, ← Array.getElem?_toList, hc, List.getElem?_map, List.getElem?_map, List.getElem?_eq_getElem hl]
  simp [List.getD_eq_getElem?_getD, List.getElem?_eq_getElem hl]

set_option maxRecDepth 100000 in
theorem open_int' {H : Type} {enc : TypeId × Value → H} {W : World} {base : Nat} {v : Value} {d : DataW H} {p : List MemPlace} (hv : Value.okWide Tryd.prog W .any base 3 v) (h : DataW.Trod enc Tryd.prog W 0 (fun _ => true) true 3 v d p) :
    ∃ n : Int, v = .int .i64 n ∧ (Lit.int .i64 n).wf = true := by
  obtain ⟨n, rfl, -, -, hw⟩ := open_int Tryd.underlying3 hv h
  exact ⟨n, rfl, hw⟩

theorem and_mk {a b : Bool} (ha : a = true) (hb : b = true) : (a && b) = true := by rw [ha, hb]; rfl

theorem words_cut (a r : List Char) (h : ∀ c ∈ a, c ≠ Char.ofNat 32) : wordsSigns (a ++ Char.ofNat 32 :: r) = a :: wordsSigns r := by
  induction a with
  | nil => rfl
  | cons c a ih =>
    have h1 : c ≠ Char.ofNat 32 := h c (by simp)
    have h2 := ih (fun x hx => h x (by simp [hx]))
    show wordsSigns (c :: (a ++ Char.ofNat 32 :: r)) = _
    rw [wordsSigns]
    · rw [h2]
    · intro e; exact h1 e

theorem initS : Tryd.prog.initOrder = "harness" ++ (" " ++ ("806886dd5abd566c6e3bf548a57d1cdbc88d67dc311f0c3c303364c3c7460144" ++ (" " ++ ("cut" ++ (" " ++ "at slipstick/slipsticklaw.CodecBack"))))) := by kernel_rfl

theorem blank : (" " : String).toList = [Char.ofNat 32] := by decide +kernel

theorem no_blank1 : ∀ c ∈ ("harness" : String).toList, c ≠ Char.ofNat 32 := by decide +kernel

theorem no_blank2 : ∀ c ∈ ("806886dd5abd566c6e3bf548a57d1cdbc88d67dc311f0c3c303364c3c7460144" : String).toList, c ≠ Char.ofNat 32 := by decide +kernel

theorem no_blank3 : ∀ c ∈ ("cut" : String).toList, c ≠ Char.ofNat 32 := by decide +kernel

theorem sum_signs : isSumSigns ("806886dd5abd566c6e3bf548a57d1cdbc88d67dc311f0c3c303364c3c7460144" : String).toList = true := by decide +kernel

/-- The first words of a program's heading, read off them alone. -/
theorem words_of {P : Program} {s r : String} (h : P.initOrder = "harness" ++ (" " ++ (s ++ (" " ++ ("cut" ++ (" " ++ r)))))) (hn : ∀ c ∈ s.toList, c ≠ Char.ofNat 32) :
    wordsSigns P.initOrder.toList = ("harness" : String).toList :: s.toList :: ("cut" : String).toList :: wordsSigns r.toList := by
  rw [h, String.toList_append, String.toList_append, String.toList_append, String.toList_append, String.toList_append, String.toList_append, blank]
  simp only [List.singleton_append]
  rw [words_cut _ _ no_blank1, words_cut _ _ hn, words_cut _ _ no_blank3]

theorem main_of {P : Program} {s : List Char} {ws : List (List Char)} (h : wordsSigns P.initOrder.toList = ("harness" : String).toList :: s :: ws) (hs : isSumSigns s = true) : P.mainIs = some (true, s) := by
  unfold Program.mainIs
  rw [h]
  simp only [hs, Bool.not_true, Bool.false_eq_true, if_false, beq_self_eq_true, if_true]

theorem behind_of {P : Program} {s : List Char} {ws : List (List Char)} (h : wordsSigns P.initOrder.toList = ("harness" : String).toList :: s :: ws) (hs : isSumSigns s = true) : behindMainWord (wordsSigns P.initOrder.toList) = ws := by
  rw [h]
  unfold behindMainWord
  simp only [hs, beq_self_eq_true, Bool.true_or, Bool.and_true, if_true]

theorem strip_none (w : List Char) (ws : List (List Char)) : ∀ os : List String, (∀ o ∈ os, (w == o.toList) = false) → stripLifts os (w :: ws) = ([], w :: ws)
  | [], _ => rfl
  | o :: os, h => by
    rw [stripLifts, if_neg (by rw [h o (by simp)]; decide)]
    exact strip_none w ws os (fun x hx => h x (by simp [hx]))

theorem cut_none : ∀ o ∈ liftWords, (("cut" : String).toList == o.toList) = false := by decide +kernel

theorem cut_gc : (("cut" : String).toList == ("gc" : String).toList) = false := by decide +kernel
theorem cut_spec : (("cut" : String).toList == ("spec" : String).toList) = false := by decide +kernel
theorem lifts_of {P : Program} {s : List Char} {ws : List (List Char)} (h : wordsSigns P.initOrder.toList = ("harness" : String).toList :: s :: ("cut" : String).toList :: ws) (hs : isSumSigns s = true) : P.headLifts = [] := by
  unfold Program.headLifts
  rw [behind_of h hs, strip_none _ _ _ cut_none]
  simp

theorem make_of {P : Program} {s : List Char} {ws : List (List Char)} (h : wordsSigns P.initOrder.toList = ("harness" : String).toList :: s :: ("cut" : String).toList :: ws) (hs : isSumSigns s = true) : P.make = some .cut := by
  unfold Program.make
  rw [behind_of h hs]
  simp only [cut_gc, cut_spec, Bool.or_self, Bool.false_eq_true, if_false, beq_self_eq_true, Bool.true_or, if_true]

theorem final_of {P : Program} {s : List Char} {ws : List (List Char)} (h : wordsSigns P.initOrder.toList = ("harness" : String).toList :: s :: ("cut" : String).toList :: ws) (hs : isSumSigns s = true) : P.liftsFinal = false := by
  unfold Program.liftsFinal
  rw [behind_of h hs, lifts_of h hs]
  have e : ((some ("cut" : String).toList : Option (List Char)) == some ("carried" : String).toList) = false := by decide +kernel
  simp only [List.head?_cons, e, Bool.false_and, List.contains_nil, Bool.or_self]

theorem enter_of {P : Program} {s : List Char} {ws : List (List Char)} (h : wordsSigns P.initOrder.toList = ("harness" : String).toList :: s :: ("cut" : String).toList :: ws) (hs : isSumSigns s = true)
    (h1 : P.laysLater = false) (h2 : P.bearsReflect = false) (h3 : P.doorFits [] = true) : P.mayEnter = true := by
  unfold Program.mayEnter
  rw [behind_of h hs]
  simp only [strip_none _ _ _ cut_none, h1, h2, h3, List.head?_cons, beq_self_eq_true, List.contains_nil, Bool.not_false, Bool.or_true, Bool.and_self]

theorem words_is : wordsSigns Tryd.prog.initOrder.toList = ("harness" : String).toList :: ("806886dd5abd566c6e3bf548a57d1cdbc88d67dc311f0c3c303364c3c7460144" : String).toList :: ("cut" : String).toList :: wordsSigns ("at slipstick/slipsticklaw.CodecBack" : String).toList := words_of initS no_blank2

theorem main_is : Tryd.prog.mainIs = some (true, ("806886dd5abd566c6e3bf548a57d1cdbc88d67dc311f0c3c303364c3c7460144" : String).toList) := main_of words_is sum_signs
theorem make_is : Tryd.prog.make = some .cut := make_of words_is sum_signs
theorem final_is : Tryd.prog.liftsFinal = false := final_of words_is sum_signs
theorem enter_is : Tryd.prog.mayEnter = true := enter_of words_is sum_signs (by kernel_rfl) (by kernel_rfl) (by kernel_rfl)
end Go.Proofs.YtiiphandhpilgaaDoor.dy

/-
  Texts laid together: Re3, Re4.
-/
import Derived.Test.YtmjhlflemfkflaaGreatDoorRz
import Derived.Test.YtmjhlflemfkflaaGreatDoorBj
import Derived.Test.YtmjhlflemfkflaaGreatDoorBd
import Derived.Test.YtmjhlflemfkflaaGreatDoorDn
import Derived.Test.YtmjhlflemfkflaaGreatDoorDb
import Derived.Test.YtmjhlflemfkflaaGreatDoorDc
import Derived.Test.YtmjhlflemfkflaaGreatDoorDe
import Derived.Test.YtmjhlflemfkflaaGreatDoorGy
import Derived.Test.YtmjhlflemfkflaaGreatDoorDyCom
import Derived.Test.YtmjhlflemfkflaaGreatDoorGp
import Derived.SizedLaws
/-
  Rest: the walk of RestDyads, paid.
-/
namespace Go.Proofs.YtmjhlflemfkflaaGreatDoor
open Go.RowKit

theorem both_small (c : Int) (t : Trip) : (Dg.dg 4294967296 (dbothR c t).1.n).length ≤ 1200 ∧ -20000 ≤ (dbothR c t).1.e ∧ (dbothR c t).1.e ≤ 20000 := by
  unfold dbothR shortT
  split
  · split
    · exact ⟨Nat.zero_le _, by simp, by simp⟩
    · split
      · exact ⟨Nat.zero_le _, by simp, by simp⟩
      · simp only
        omega
  · exact ⟨Nat.zero_le _, by simp, by simp⟩

theorem cmp_self (A : Trip) : signT (bare (dplusT (bare A) (minusT (bare A)))) = 0 := by
  rw [sign_ref]
  have h1 : -((A.e.natAbs : Nat) : Int) ≤ A.e := by omega
  have e1 : V A.e.natAbs (plusT A (negT A)) = 0 := by
    rw [V_plus h1 (by exact h1), V_neg]
    omega
  have e3 := sgn_V A.e.natAbs (plusT A (negT A))
  unfold signT
  rw [← e3, e1]
  rfl

/-- The three numbers. -/
def restT (a b c : Trip) : Nat → Trip
  | 0 => bare a
  | 1 => bare b
  | _ => bare c

theorem restT_is (a b c : Trip) (k : Nat) : restT a b c k = bare a ∨ restT a b c k = bare b ∨ restT a b c k = bare c := by
  unfold restT
  split
  · exact .inl rfl
  · exact .inr (.inl rfl)
  · exact .inr (.inr rfl)

theorem ofDyad_back (s : Bool) (n : Nat) (e : Int) (o : Option Addr) (c : Nat) (w : World) (r : Rd w .u32 (.slice o (Dg.dg 4294967296 n).length c) (Dg.dg 4294967296 n)) (h : (Dg.dg 4294967296 n).length ≤ 1200 ∧ -20000 ≤ e ∧ e ≤ 20000) :
    Calls Tryz.prog 18 #[.agg #[.bool s, .slice o (Dg.dg 4294967296 n).length c, .int .i64 e]] w (RDResF w (bare ⟨s, n, e⟩)) := by
  have := ofDyad_far s o c (Dg.dg 4294967296 n) e w r (Dg.small_dg _ _ (by omega)) (by omega) (by omega) (by omega)
  rwa [Dg.vl_dg _ _ (by omega)] at this

theorem restDyads_walk (s : Bool) (ao : Option Addr) (ca : Nat) (xs : List Nat) (e : Int) (t : Bool) (bo : Option Addr) (cb : Nat) (ys : List Nat) (f : Int) (n : Int) (qs : Bool) (no : Option Addr) (nc : Nat) (ns : List Nat) (mo : Option Addr) (mc : Nat) (ms : List Nat) (E R D L G : Int) (gr : Bool) (way : Int) (w : World)
    (ha : Rd w .u32 (.slice ao xs.length ca) xs) (sa : Dg.Small 4294967296 xs) (hb : Rd w .u32 (.slice bo ys.length cb) ys) (sb : Dg.Small 4294967296 ys) (hn : Rd w .u32 (.slice no ns.length nc) ns) (sn : Dg.Small 4294967296 ns) (hm : Rd w .u32 (.slice mo ms.length mc) ms) (sm : Dg.Small 4294967296 ms)
    (l1 : xs.length * 4 ≤ 140737488351232) (l2 : ys.length * 4 ≤ 140737488351232) (l3 : ns.length * 4 ≤ 140737488351232) (l4 : ms.length * 4 ≤ 140737488351232) (hT : Tab w) :
    Calls Tryz.prog 4 #[.agg #[.bool s, .slice ao xs.length ca, .int .i64 e], .agg #[.bool t, .slice bo ys.length cb, .int .i64 f], .int .i64 n, .agg #[.bool qs, .slice no ns.length nc, .slice mo ms.length mc, .int .i64 E], .agg #[.int .i64 R, .int .i64 D, .int .i64 L, .int .i64 G, .bool gr], .int .i64 way] w fun z w' => z = .returned (.bool true) ∧ Below w.heap.size w w' := by
  have f0 := both_small (dchk2 xs e ys f) (plusT ⟨s, Dg.vl 4294967296 xs, e⟩ ⟨t, Dg.vl 4294967296 ys, f⟩)
  have f1 := both_small (cutchk xs e n) (cutT ⟨s, Dg.vl 4294967296 xs, e⟩ n true)
  have f2 := both_small (dchk xs e) ⟨s, Dg.vl 4294967296 xs, e⟩
  obtain ⟨⟨⟨u0s, u0n, u0e⟩, c0⟩, h0⟩ : ∃ r, dbothR (dchk2 xs e ys f) (plusT ⟨s, Dg.vl 4294967296 xs, e⟩ ⟨t, Dg.vl 4294967296 ys, f⟩) = r := ⟨_, rfl⟩
  obtain ⟨⟨⟨u1s, u1n, u1e⟩, c1⟩, h1⟩ : ∃ r, dbothR (cutchk xs e n) (cutT ⟨s, Dg.vl 4294967296 xs, e⟩ n true) = r := ⟨_, rfl⟩
  obtain ⟨⟨⟨u2s, u2n, u2e⟩, c2⟩, h2⟩ : ∃ r, dbothR (dchk xs e) ⟨s, Dg.vl 4294967296 xs, e⟩ = r := ⟨_, rfl⟩
  rw [h0] at f0
  rw [h1] at f1
  rw [h2] at f2
  simp only at f0 f1 f2
  have htw : ∀ (o : Option Addr) (c : Nat) (zs : List Nat) (w1 : World), Rd w .u32 (.slice o zs.length c) zs → zs.length * 4 ≤ 140737488351232 → Below w.heap.size w w1 → Calls Tryz.prog 14 #[.slice o zs.length c] w1 fun z w' => ∃ v, z = .returned v ∧ Rd w' .u32 v zs ∧ Below w1.heap.size w1 w' := fun o c zs w1 r l b => by
    refine (twin_any _ zs w1 (r.later b) (by omega)).mono ?_
    rintro z w' ⟨v, h1, h2, h3⟩
    exact ⟨v, h1, h2.rd, h3⟩
  have hsm : ∀ (o : Option Addr) (c : Nat) (zs : List Nat) (u : Value) (w1 : World), Rd w .u32 (.slice o zs.length c) zs → Below w.heap.size w w1 → Rd w1 .u32 u zs → Calls Tryz.prog 23 #[.slice o zs.length c, u] w1 fun z w' => z = .returned (.bool true) ∧ Below w1.heap.size w1 w' := fun o c zs u w1 r b ru => by
    have := same_any _ u zs zs w1 (r.later b) ru
    rwa [decide_eq_true rfl] at this
  refine restDyadsW s ao _ ca e t bo _ cb f n qs no _ nc mo _ mc E R D L G gr way xs ys ns ms u0s u1s u2s u0n u1n u2n u0e u1e u2e c0 c1 c2 (restT ⟨u0s, u0n, u0e⟩ ⟨u1s, u1n, u1e⟩ ⟨u2s, u2n, u2e⟩) _ _ _ w (fun w1 b => dbegun_any w1 (hT.later b)) (fun w1 b => bbegun_any w1 (hT.later b)) (fun w1 _ => gbegun_any w1)
    (fun w1 b => htw ao ca xs w1 ha l1 b) (fun w1 b => htw bo cb ys w1 hb l2 b) (fun w1 b => htw no nc ns w1 hn l3 b) (fun w1 b => htw mo mc ms w1 hm l4 b) ?_ ?_ ?_
    (fun w1 b => bJoin_ok s ao ca xs e s ao ca xs e t bo cb ys f t bo cb ys f n w1 (ha.later b) (ha.later b) (hb.later b) (hb.later b) sa sa sb sb (hT.later b))
    (fun w1 b => gRound_any qs no nc ns mo mc ms E R D L G gr way w1 (hn.later b) (hm.later b) sn sm)
    (fun o c w1 r => ofDyad_back u0s u0n u0e o c w1 r f0) (fun o c w1 r => ofDyad_back u1s u1n u1e o c w1 r f1) (fun o c w1 r => ofDyad_back u2s u2n u2e o c w1 r f2) ?_
    (fun u w1 b r => hsm ao ca xs u w1 ha b r) (fun u w1 b r => hsm bo cb ys u w1 hb b r) (fun u w1 b r => hsm no nc ns u w1 hn b r) (fun u w1 b r => hsm mo mc ms u w1 hm b r)
  · intro w1 b
    have := dadd_any s ao ca xs e t bo cb ys f w1 (ha.later b) (hb.later b) sa sb (hT.later b)
    rwa [h0] at this
  · intro w1 b
    have := dcut_any s ao ca xs e n true w1 (ha.later b) sa (hT.later b)
    rwa [h1] at this
  · intro w1 b
    have := dyBare_any s ao ca xs e w1 (ha.later b) sa (hT.later b)
    rwa [h2] at this
  · intro k o c o' c' w1 _ r1 r2
    have hb0 : ∃ A : Trip, restT ⟨u0s, u0n, u0e⟩ ⟨u1s, u1n, u1e⟩ ⟨u2s, u2n, u2e⟩ k = bare A ∧ (Dg.dg 4294967296 A.n).length ≤ 1200 ∧ -20000 ≤ A.e ∧ A.e ≤ 20000 := by
      rcases restT_is ⟨u0s, u0n, u0e⟩ ⟨u1s, u1n, u1e⟩ ⟨u2s, u2n, u2e⟩ k with h | h | h
      · exact ⟨_, h, f0⟩
      · exact ⟨_, h, f1⟩
      · exact ⟨_, h, f2⟩
    obtain ⟨A, hA, g1, g2, g3⟩ := hb0
    rw [hA] at r1 r2 ⊢
    obtain ⟨b1, b2, b3⟩ := bare_fits g1 g2 g3
    have := refdcmp_any _ _ (bare A) (bare A) w1 ⟨_, rfl, r1⟩ ⟨_, rfl, r2⟩ (by omega) (by omega) (by omega) (by omega) (by omega) (by omega)
    rwa [cmp_self] at this
end Go.Proofs.YtmjhlflemfkflaaGreatDoor
/-
  How long the rows of dyads and ratios are that came in.
-/
namespace Go.Proofs.YtmjhlflemfkflaaGreatDoor
open Go.ChangeShapes Go.WideShapes Go.ChangeAt Go.RowKit

theorem bytesU32 : Tryz.prog.bytesOf 76 = 4 := by kernel_rfl

theorem cellsDy : Tryz.prog.cellsOf 25 = 3 := by kernel_rfl

set_option maxRecDepth 100000 in
theorem row_weight {H : Type} {enc : TypeId × Value → H} {W : World} {n : Nat} {ao : Option Addr} {len ca : Nat} {y : DataW H × List MemPlace} (h : DataW.trod enc Tryz.prog W 0 (fun _ => true) true n 23 [.slice ao len ca] = some y) :
    len = 0 ∨ ∃ m ∈ y.1.weights Tryz.prog 23, len * 4 ≤ m := by
  rcases open_ints Tryz.underlying23 Tryz.underlying76 (by kernel_rfl) h with ⟨hcs, _⟩ | ⟨x, l, c, zs, hcs, _, hl, hm, hz, hx, hcell, hwz⟩
  · simp at hcs
    exact .inl hcs.2.1
  · simp at hcs
    obtain ⟨rfl, rfl, rfl⟩ := hcs
    right
    have hz' : zs.length = ca := by simpa using hz
    refine ⟨((lits (H := H) .u32 (zs.take len)).length + (lits (H := H) .u32 (zs.drop len)).length) * Tryz.prog.bytesOf 76, ?_, ?_⟩
    · rw [hx]
      simp [DataW.weights, Tryz.underlying23]
    · rw [bytesU32]
      simp only [lits, List.length_map, List.length_take, List.length_drop]
      omega

set_option maxRecDepth 100000 in
theorem dyad_len {H : Type} {enc : TypeId × Value → H} {W : World} {s : Bool} {ao : Option Addr} {len ca : Nat} {e : Int} {d : DataW H} {p : List MemPlace} (h : DataW.Trod enc Tryz.prog W 0 (fun _ => true) true 25 (.agg #[.bool s, .slice ao len ca, .int .i64 e]) d p)
    (hw : ∀ m ∈ d.weights Tryz.prog 25, m ≤ reachBytes) : len * 4 ≤ 140737488351232 := by
  obtain ⟨fuel, hf⟩ := h
  obtain ⟨ys, n, -, hx, hl, hlen, hff⟩ := DataW.trod_struct Tryz.underlying25 hf
  have h1 := hff 1 _ rfl
  match ys, hlen with
  | [y0, y1, y2], _ =>
    simp [Value.cells, cellsNat] at h1
    cases hx
    rcases row_weight h1 with h | ⟨m, hm, hle⟩
    · omega
    · have := hw m (by
        unfold DataW.weights
        rw [Tryz.underlying25]
        exact DataW.weights_mem_each (j := 1) (t := 23) rfl rfl m hm)
      unfold reachBytes at this
      omega

set_option maxRecDepth 100000 in
theorem ratio_len {H : Type} {enc : TypeId × Value → H} {W : World} {s : Bool} {ao : Option Addr} {la ca : Nat} {bo : Option Addr} {lb cb : Nat} {e : Int} {d : DataW H} {p : List MemPlace} (h : DataW.Trod enc Tryz.prog W 0 (fun _ => true) true 44 (.agg #[.bool s, .slice ao la ca, .slice bo lb cb, .int .i64 e]) d p)
    (hw : ∀ m ∈ d.weights Tryz.prog 44, m ≤ reachBytes) : la * 4 ≤ 140737488351232 ∧ lb * 4 ≤ 140737488351232 := by
  obtain ⟨fuel, hf⟩ := h
  obtain ⟨ys, n, -, hx, hl, hlen, hff⟩ := DataW.trod_struct Tryz.underlying44 hf
  have h1 := hff 1 _ rfl
  have h2 := hff 2 _ rfl
  match ys, hlen with
  | [y0, y1, y2, y3], _ =>
    simp [Value.cells, cellsNat] at h1 h2
    cases hx
    refine ⟨?_, ?_⟩
    · rcases row_weight h1 with h | ⟨m, hm, hle⟩
      · omega
      · have := hw m (by
          unfold DataW.weights
          rw [Tryz.underlying44]
          exact DataW.weights_mem_each (j := 1) (t := 23) rfl rfl m hm)
        unfold reachBytes at this
        omega
    · rcases row_weight h2 with h | ⟨m, hm, hle⟩
      · omega
      · have := hw m (by
          unfold DataW.weights
          rw [Tryz.underlying44]
          exact DataW.weights_mem_each (j := 2) (t := 23) rfl rfl m hm)
        unfold reachBytes at this
        omega
end Go.Proofs.YtmjhlflemfkflaaGreatDoor

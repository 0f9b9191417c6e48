/-
  Texts laid together: GrP, GrQ.
-/
import Derived.Test.YtmjhlflemfkflaaGreatDoorGr1
import Derived.WalkKit
import Derived.ProofKit
import Derived.OpenShut
import Derived.ShutString
import Derived.ChangeOld
import Derived.Below
import Derived.Test.YtmjhlflemfkflaaGreatDoorNd
/-
  A grid that came in, opened.
-/
namespace Go.Proofs.YtmjhlflemfkflaaGreatDoor
open Go.ChangeShapes Go.WideShapes Go.ChangeAt Go.RowKit

theorem array5 {α : Type} {cs : Array α} (h : cs.size = 5) : ∃ c0 c1 c2 c3 c4, cs = #[c0, c1, c2, c3, c4] := by
  obtain ⟨l⟩ := cs
  match l, h with
  | [c0, c1, c2, c3, c4], _ => exact ⟨c0, c1, c2, c3, c4, rfl⟩

theorem cellsG : Tryz.prog.cellsOf 46 = 5 := by kernel_rfl
theorem cellsInt : Tryz.prog.cellsOf 3 = 1 := by kernel_rfl
theorem cellsBool : Tryz.prog.cellsOf 4 = 1 := by kernel_rfl

theorem boolG_of {H : Type} {enc : TypeId × Value → H} {P : Program} {w : World} {base : Nat} {spare : Nat → Bool} {held : Bool} {fuel : Nat} {t : TypeId} {cs : List Value} {x : DataW H × List MemPlace} (ht : P.underlying t = some .bool) (h : DataW.trod enc P w base spare held fuel t cs = some x) : ∃ b, cs = [.bool b] := by
  cases fuel with
  | zero => simp [DataW.trod] at h
  | succ n =>
    unfold DataW.trod at h
    rw [ht] at h
    split at h <;> simp_all

set_option maxRecDepth 100000 in
theorem open_grid {H : Type} {enc : TypeId × Value → H} {W : World} {base : Nat} {v : Value} {d : DataW H} {p : List MemPlace} (hv : Value.okWide Tryz.prog W .any base 46 v) (h : DataW.Trod enc Tryz.prog W 0 (fun _ => true) true 46 v d p) :
    ∃ (R D L G : Int) (gr : Bool), v = .agg #[.int .i64 R, .int .i64 D, .int .i64 L, .int .i64 G, .bool gr] ∧ (Lit.int .i64 R).wf = true ∧ (Lit.int .i64 D).wf = true ∧ (Lit.int .i64 L).wf = true ∧ (Lit.int .i64 G).wf = true := by
  obtain ⟨cs, rfl, hsz⟩ := okWide_struct Tryz.underlying46 hv
  obtain ⟨c0, c1, c2, c3, c4, rfl⟩ := array5 (hsz.trans cellsG)
  obtain ⟨fuel, hf⟩ := h
  obtain ⟨xs, n, _, _, hl, hlen, hff⟩ := DataW.trod_struct Tryz.underlying46 hf
  have h0 := hff 0 _ rfl
  have h1 := hff 1 _ rfl
  have h2 := hff 2 _ rfl
  have h3 := hff 3 _ rfl
  have h4 := hff 4 _ rfl
  match xs, hlen with
  | [y0, y1, y2, y3, y4], _ =>
    simp [Value.cells, cellsInt, cellsBool] at h0 h1 h2 h3 h4
    obtain ⟨R, e0, -, w0⟩ := DataW.trod_int Tryz.underlying3 h0
    obtain ⟨D, e1, -, w1⟩ := DataW.trod_int Tryz.underlying3 h1
    obtain ⟨L, e2, -, w2⟩ := DataW.trod_int Tryz.underlying3 h2
    obtain ⟨G, e3, -, w3⟩ := DataW.trod_int Tryz.underlying3 h3
    obtain ⟨gr, e4⟩ := boolG_of Tryz.underlying4 h4
    simp at e0 e1 e2 e3 e4
    subst e0 e1 e2 e3 e4
    exact ⟨R, D, L, G, gr, rfl, w0, w1, w2, w3⟩
end Go.Proofs.YtmjhlflemfkflaaGreatDoor
/-
  A ratio and a place that came in, opened.
-/
namespace Go.Proofs.YtmjhlflemfkflaaGreatDoor
open Go.ChangeShapes Go.WideShapes Go.ChangeAt Go.RowKit

theorem array4 {α : Type} {cs : Array α} (h : cs.size = 4) : ∃ c0 c1 c2 c3, cs = #[c0, c1, c2, c3] := by
  obtain ⟨l⟩ := cs
  match l, h with
  | [c0, c1, c2, c3], _ => exact ⟨c0, c1, c2, c3, rfl⟩

theorem cellsQ : Tryz.prog.cellsOf 44 = 4 := by kernel_rfl
theorem cellsNat : Tryz.prog.cellsOf 23 = 1 := by kernel_rfl

set_option maxRecDepth 100000 in
theorem open_digits {H : Type} {enc : TypeId × Value → H} {W : World} {n : Nat} {c : Value} {y : DataW H × List MemPlace} (h : DataW.trod enc Tryz.prog W 0 (fun _ => true) true n 23 [c] = some y) :
    ∃ (xs : List Nat) (ao : Option Addr) (ca : Nat), c = .slice ao xs.length ca ∧ Rd W .u32 (.slice ao xs.length ca) xs ∧ Dg.Small 4294967296 xs := by
  rcases open_ints Tryz.underlying23 Tryz.underlying76 (by kernel_rfl) h with ⟨hcs, _⟩ | ⟨x, l, c, zs, hcs, _, hl, hm, hz, _, hcell, hwz⟩
  · simp at hcs
    exact ⟨[], none, 0, hcs, rd_nil _ _, Dg.small_nil _ (by omega)⟩
  · simp at hcs
    obtain ⟨xs, hr, hsm⟩ := rd_of_row (w := W) (a := some x) (len := l) (cap := c) (zs := zs) (.inr ⟨x, rfl, hl, hm, by simpa using hz, hcell, hwz⟩)
    obtain ⟨ao, ca, hv⟩ := hr.shape
    exact ⟨xs, ao, ca, hcs.trans hv, hv ▸ hr, hsm⟩

set_option maxRecDepth 100000 in
theorem open_ratio {H : Type} {enc : TypeId × Value → H} {W : World} {base : Nat} {v : Value} {d : DataW H} {p : List MemPlace} (hv : Value.okWide Tryz.prog W .any base 44 v) (h : DataW.Trod enc Tryz.prog W 0 (fun _ => true) true 44 v d p) :
    ∃ (s : Bool) (ao : Option Addr) (ca : Nat) (xs : List Nat) (bo : Option Addr) (cb : Nat) (ys : List Nat) (e : Int), v = .agg #[.bool s, .slice ao xs.length ca, .slice bo ys.length cb, .int .i64 e] ∧
      Rd W .u32 (.slice ao xs.length ca) xs ∧ Dg.Small 4294967296 xs ∧ Rd W .u32 (.slice bo ys.length cb) ys ∧ Dg.Small 4294967296 ys ∧ (Lit.int .i64 e).wf = true := by
  obtain ⟨cs, rfl, hsz⟩ := okWide_struct Tryz.underlying44 hv
  obtain ⟨c0, c1, c2, c3, rfl⟩ := array4 (hsz.trans cellsQ)
  obtain ⟨fuel, hf⟩ := h
  obtain ⟨xs, n, _, _, hl, hlen, hff⟩ := DataW.trod_struct Tryz.underlying44 hf
  have h0 := hff 0 _ rfl
  have h1 := hff 1 _ rfl
  have h2 := hff 2 _ rfl
  have h3 := hff 3 _ rfl
  match xs, hlen with
  | [y0, y1, y2, y3], _ =>
    simp [Value.cells, cellsInt, cellsBool, cellsNat] at h0 h1 h2 h3
    obtain ⟨s, e0⟩ := boolG_of Tryz.underlying4 h0
    obtain ⟨zs, ao, ca, rfl, r1, s1⟩ := open_digits h1
    obtain ⟨ys, bo, cb, rfl, r2, s2⟩ := open_digits h2
    obtain ⟨e, e3, -, w3⟩ := DataW.trod_int Tryz.underlying3 h3
    simp at e0 e3
    subst e0 e3
    exact ⟨s, ao, ca, zs, bo, cb, ys, e, rfl, r1, s1, r2, s2, w3⟩

theorem array6g {α : Type} {cs : Array α} (h : cs.size = 6) : ∃ c0 c1 c2 c3 c4 c5, cs = #[c0, c1, c2, c3, c4, c5] := by
  obtain ⟨l⟩ := cs
  match l, h with
  | [c0, c1, c2, c3, c4, c5], _ => exact ⟨c0, c1, c2, c3, c4, c5, rfl⟩

theorem cellsP : Tryz.prog.cellsOf 59 = 6 := by kernel_rfl

set_option maxRecDepth 100000 in
theorem open_place {H : Type} {enc : TypeId × Value → H} {W : World} {base : Nat} {v : Value} {d : DataW H} {p : List MemPlace} (hv : Value.okWide Tryz.prog W .any base 59 v) (h : DataW.Trod enc Tryz.prog W 0 (fun _ => true) true 59 v d p) :
    ∃ (s : Bool) (ao : Option Addr) (ca : Nat) (xs : List Nat) (e : Int) (x o u : Bool), v = .agg #[.bool s, .slice ao xs.length ca, .int .i64 e, .bool x, .bool o, .bool u] ∧
      Rd W .u32 (.slice ao xs.length ca) xs ∧ Dg.Small 4294967296 xs ∧ (Lit.int .i64 e).wf = true := by
  obtain ⟨cs, rfl, hsz⟩ := okWide_struct Tryz.underlying59 hv
  obtain ⟨c0, c1, c2, c3, c4, c5, rfl⟩ := array6g (hsz.trans cellsP)
  obtain ⟨fuel, hf⟩ := h
  obtain ⟨xs, n, _, _, hl, hlen, hff⟩ := DataW.trod_struct Tryz.underlying59 hf
  have h0 := hff 0 _ rfl
  have h1 := hff 1 _ rfl
  have h2 := hff 2 _ rfl
  have h3 := hff 3 _ rfl
  have h4 := hff 4 _ rfl
  have h5 := hff 5 _ rfl
  match xs, hlen with
  | [y0, y1, y2, y3, y4, y5], _ =>
    simp [Value.cells, cellsInt, cellsBool, cellsNat] at h0 h1 h2 h3 h4 h5
    obtain ⟨s, e0⟩ := boolG_of Tryz.underlying4 h0
    obtain ⟨zs, ao, ca, rfl, r1, s1⟩ := open_digits h1
    obtain ⟨e, e2, -, w2⟩ := DataW.trod_int Tryz.underlying3 h2
    obtain ⟨x, e3⟩ := boolG_of Tryz.underlying4 h3
    obtain ⟨o, e4⟩ := boolG_of Tryz.underlying4 h4
    obtain ⟨u, e5⟩ := boolG_of Tryz.underlying4 h5
    simp at e0 e2 e3 e4 e5
    subst e0 e2 e3 e4 e5
    exact ⟨s, ao, ca, zs, e, x, o, u, rfl, r1, s1, w2⟩
end Go.Proofs.YtmjhlflemfkflaaGreatDoor

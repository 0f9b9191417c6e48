/-
  Texts laid together: Re1, Re2.
-/
import Derived.Test.YtmjhlflemfkflaaGreatDoorRn1
import Derived.Test.YtmjhlflemfkflaaGreatDoorDc
import Derived.Test.YtmjhlflemfkflaaGreatDoorBs
import Derived.Test.YtmjhlflemfkflaaGreatDoorGr6
import Derived.Deep.Cut
import Derived.Deep.DeepCutAuto
import Derived.Deep.CutRange
/-
  Rest: spoil, by what it leaves; an array of three numbers of the reference.
-/
namespace Go.Proofs.YtmjhlflemfkflaaGreatDoor
open Go.RowKit

/-- What spoil leaves. -/
def Spoilt (base : Nat) (v : Value) (w w' : World) : Prop :=
  Below base w w' ∧ (∀ B u, Wr w B u → Wr w' B u) ∧ (∀ a z, w.cell? a = some (.int .i64 z) → w'.cell? a = some (.int .i64 z)) ∧ (w' = w ∨ ∃ a n c, v = .slice (some a) n c ∧ But a.block w w')

theorem Spoilt.refl (base : Nat) (v : Value) (w : World) : Spoilt base v w w := ⟨Below.refl _ _, fun _ _ h => h, fun _ _ h => h, .inl rfl⟩

theorem Spoilt.step {base : Nat} {g n c : Nat} {w wr : World} (h : Spoilt base (.slice (some ⟨g, 0, none⟩) n c) w wr) {ty : TypeId} {vs : List Value} (hl : LocE wr g ty vs) {k : Nat} {z : Int} (hz : vs[k]? = some (.int .u32 z)) (hg : base ≤ g) :
    Spoilt base (.slice (some ⟨g, 0, none⟩) n c) w (wr.setCell ⟨g, k, none⟩ (.int .u32 77)) := by
  obtain ⟨h1, h2, h3, h4⟩ := h
  have bu := but_set wr g k (.int .u32 77)
  refine ⟨bu.below h1 hg, fun B u hu => (h2 B u hu).set g k 77, fun a y ha => ?_, .inr ⟨⟨g, 0, none⟩, n, c, rfl, ?_⟩⟩
  · have h5 := h3 a y ha
    have h6 := hl.cell k hz
    rw [World.cell?_setCell_other]
    · exact h5
    · intro e
      rw [← e, h6] at h5
      cases h5
  · rcases h4 with rfl | ⟨a, n', c', e, hb⟩
    · exact bu
    · cases e
      exact hb.trans bu

set_option maxRecDepth 100000 in
set_option maxHeartbeats 1600000 in
theorem spoil2_any (v : Value) (base : Nat) (w : World) (h : Wr w base v) :
    Calls Tryz.prog 20 #[v] w fun e w' => (∃ z, e = .returned z) ∧ Spoilt base v w w' := by
  obtain ⟨ao, n, c, rfl, hc, hm, -⟩ := id h
  have hn2 : n ≤ 9223372036854775807 := by unfold maxLen at hm; omega
  go_enter Tryz.func20, Tryz.ntmps20
  go_wp2
  go_loopw [2] (fun iv wr => ∃ k : Nat, k ≤ n ∧ iv = .int .i64 k ∧ Hid (Spoilt base (.slice ao n c) w wr)) (fun iv _ => n - (intOf iv).toNat)
  case atStart => exact ⟨0, Nat.zero_le _, rfl, Spoilt.refl _ _ _⟩
  case round =>
    obtain ⟨k, hk, rfl, HW⟩ := hrel
    by_cases hlt : k < n
    · obtain ⟨ao', n', c', e1, -, -, hx⟩ := HW.out.2.1 _ _ h
      cases e1
      obtain ⟨g, ty, vs, rfl, hg, hl, hlen, hi⟩ := hx (by omega)
      obtain ⟨z, hz⟩ := hi k hlt
      have h1 := hl.cell k hz
      have h2 := hl.free k
      have HW2 : Hid (Spoilt base (.slice (some ⟨g, 0, none⟩) n c) w (wr.setCell ⟨g, k, none⟩ (.int .u32 77))) := HW.out.step hl hz hg
      clear hi hz hl hlen hx
      go_wp2
      go_roundw
      case rel => exact ⟨k + 1, by omega, by go_num, HW2⟩
      case measure => simp [intOf]; omega
    · go_wp2
      go_end0
      exact ⟨⟨_, rfl⟩, HW.out⟩

theorem Spoilt.rd {base : Nat} {v u : Value} {w w' : World} {zs : List Nat} (h : Spoilt base v w w') (hr : Rd w .i64 u zs) : Rd w' .i64 u zs := by
  obtain ⟨ao, cap, rfl, h1, h2, h3⟩ := hr
  refine ⟨ao, cap, rfl, h1, h2, fun hp => ?_⟩
  obtain ⟨b, off, e, hc⟩ := h3 hp
  exact ⟨b, off, e, fun i hi => h.2.2.1 _ _ (hc i hi)⟩

/-- A block that is not the one that was spoilt. -/
theorem Spoilt.loc {base : Nat} {v : Value} {w w' : World} {b : Nat} {ty : TypeId} {vs : List Value} (h : Spoilt base v w w') (hl : LocE w b ty vs) (hb : ∀ a n c, v = .slice (some a) n c → a.block ≠ b) : LocE w' b ty vs := by
  rcases h.2.2.2 with rfl | ⟨a, n, c, e, hbu⟩
  · exact hl
  · exact hbu.loc hl (fun e2 => hb a n c e e2.symm)

theorem Spoilt.rdU {base : Nat} {v u : Value} {w w' : World} {zs : List Nat} (h : Spoilt base v w w') (hr : Rd w .u32 u zs) (hb : ∀ a n c a' n' c', v = .slice (some a) n c → u = .slice (some a') n' c' → a.block ≠ a'.block) : Rd w' .u32 u zs := by
  rcases h.2.2.2 with rfl | ⟨a, n, c, e, hbu⟩
  · exact hr
  · exact hbu.rd hr (fun _ a' n' c' e' e2 => hb a n c a' n' c' e e' e2.symm)

/-- Three numbers of the reference, of which the first m are known. -/
def WasK (ty : TypeId) (pw : Nat) (T : Nat → Trip) (m : Nat) (w : World) : Prop :=
  ∃ vs : List Value, LocE w pw ty vs ∧ vs.length = 9 ∧ ∀ j, j < m → ∃ s, vs[3 * j]? = some (.bool (T j).s) ∧ vs[3 * j + 1]? = some s ∧ vs[3 * j + 2]? = some (.int .i64 (T j).e) ∧ Rd w .i64 s (Dg.dg 65536 (T j).n) ∧ Far (pw + 1) s

theorem WasK.later {ty : TypeId} {pw : Nat} {T : Nat → Trip} {m : Nat} {w w' : World} (h : WasK ty pw T m w) (hb : Below w.heap.size w w') : WasK ty pw T m w' := by
  obtain ⟨vs, h1, h2, h3⟩ := h
  refine ⟨vs, h1.later hb, h2, fun j hj => ?_⟩
  obtain ⟨s, a, b, c, d, e⟩ := h3 j hj
  exact ⟨s, a, b, c, d.later hb, e⟩

theorem WasK.spoilt {ty : TypeId} {pw : Nat} {T : Nat → Trip} {m : Nat} {w w' : World} {base : Nat} {v : Value} (h : WasK ty pw T m w) (hs : Spoilt base v w w') (hb : pw < base) : WasK ty pw T m w' := by
  obtain ⟨vs, h1, h2, h3⟩ := h
  refine ⟨vs, (hs.1.block pw hb).trans h1, h2, fun j hj => ?_⟩
  obtain ⟨s, a, b, c, d, e⟩ := h3 j hj
  exact ⟨s, a, b, c, hs.rd d, e⟩

theorem WasK.less {ty : TypeId} {pw : Nat} {T : Nat → Trip} {m k : Nat} {w : World} (h : WasK ty pw T m w) (hk : k ≤ m) : WasK ty pw T k w := by
  obtain ⟨vs, h1, h2, h3⟩ := h
  exact ⟨vs, h1, h2, fun j hj => h3 j (by omega)⟩

theorem WasK.cell {ty : TypeId} {pw : Nat} {T : Nat → Trip} {m : Nat} {w : World} (h : WasK ty pw T m w) (i : Nat) (hi : i < 9) : (∃ v, w.cell? ⟨pw, i, none⟩ = some v) ∧ w.frozen? ⟨pw, i, none⟩ = false := by
  obtain ⟨vs, h1, h2, -⟩ := h
  exact ⟨⟨_, h1.cell i (List.getElem?_eq_getElem (by omega))⟩, h1.free i⟩

theorem WasK.get {ty : TypeId} {pw : Nat} {T : Nat → Trip} {m : Nat} {w : World} (h : WasK ty pw T m w) (j : Nat) (hj : j < m) :
    ∃ o c, w.cell? ⟨pw, 3 * j, none⟩ = some (.bool (T j).s) ∧ w.cell? ⟨pw, 3 * j + 1, none⟩ = some (.slice o (Dg.dg 65536 (T j).n).length c) ∧ w.cell? ⟨pw, 3 * j + 2, none⟩ = some (.int .i64 (T j).e) ∧ Rd w .i64 (.slice o (Dg.dg 65536 (T j).n).length c) (Dg.dg 65536 (T j).n) := by
  obtain ⟨vs, h1, h2, h3⟩ := h
  obtain ⟨s, a, b, c, d, e⟩ := h3 j hj
  obtain ⟨o, k, rfl⟩ := d.shape
  exact ⟨o, k, h1.cell _ a, h1.cell _ b, h1.cell _ c, d⟩

theorem WasK.put {ty : TypeId} {pw : Nat} {T : Nat → Trip} {m k : Nat} {w : World} {s : Value} (h : WasK ty pw T m w) (hk : k < 3) (hkm : k ≤ m) (hr : Rd w .i64 s (Dg.dg 65536 (T k).n)) (hf : Far (pw + 1) s) :
    WasK ty pw T (max m (k + 1)) (((w.setCell ⟨pw, 3 * k, none⟩ (.bool (T k).s)).setCell ⟨pw, 3 * k + 1, none⟩ s).setCell ⟨pw, 3 * k + 2, none⟩ (.int .i64 (T k).e)) := by
  obtain ⟨vs, h1, h2, h3⟩ := h
  have bu := ((but_set w pw (3 * k) (.bool (T k).s)).trans (but_set _ pw (3 * k + 1) s)).trans (but_set _ pw (3 * k + 2) (.int .i64 (T k).e))
  have hoff : ∀ (u : Value) (zs : List Nat), Far (pw + 1) u → OffB pw u zs := fun u zs hu _ a n c e => by
    have := hu a n c e
    omega
  refine ⟨((vs.set (3 * k) (.bool (T k).s)).set (3 * k + 1) s).set (3 * k + 2) (.int .i64 (T k).e), ((h1.set _ _).set _ _).set _ _, by simpa using h2, fun j hj => ?_⟩
  by_cases e : j = k
  · subst e
    refine ⟨s, ?_, ?_, ?_, bu.rd hr (hoff _ _ hf), hf⟩
    · rw [List.getElem?_set_ne (by omega), List.getElem?_set_ne (by omega), List.getElem?_set_self (by omega)]
    · rw [List.getElem?_set_ne (by omega), List.getElem?_set_self (by simp; omega)]
    · rw [List.getElem?_set_self (by simp; omega)]
  · obtain ⟨u, a, b, c, d, f⟩ := h3 j (by omega)
    refine ⟨u, ?_, ?_, ?_, bu.rd d (hoff _ _ f), f⟩
    · rw [List.getElem?_set_ne (by omega), List.getElem?_set_ne (by omega), List.getElem?_set_ne (by omega)]
      exact a
    · rw [List.getElem?_set_ne (by omega), List.getElem?_set_ne (by omega), List.getElem?_set_ne (by omega)]
      exact b
    · rw [List.getElem?_set_ne (by omega), List.getElem?_set_ne (by omega), List.getElem?_set_ne (by omega)]
      exact c
end Go.Proofs.YtmjhlflemfkflaaGreatDoor
/-
  Rest: the walk of RestDyads.
-/
namespace Go.Proofs.YtmjhlflemfkflaaGreatDoor
open Go.RowKit

/-- What came in lies in its boxes. -/
def Stay (vx vy vq vg : List Value) (w W : World) : Prop :=
  LocE W w.heap.size 25 vx ∧ LocE W (w.heap.size + 1) 25 vy ∧ LocE W (w.heap.size + 1 + 1) 44 vq ∧ LocE W (w.heap.size + 1 + 1 + 1) 46 vg ∧ Below w.heap.size w W

theorem Stay.later {vx vy vq vg : List Value} {w W W' : World} (h : Stay vx vy vq vg w W) (hb : Below W.heap.size W W') : Stay vx vy vq vg w W' := by
  obtain ⟨h1, h2, h3, h4, h5⟩ := h
  exact ⟨h1.later hb, h2.later hb, h3.later hb, h4.later hb, below_trans h5 hb⟩

theorem Stay.below {vx vy vq vg : List Value} {w W : World} (h : Stay vx vy vq vg w W) : Below w.heap.size w W := h.2.2.2.2

/-- A row that may be spoilt, and where it lies. -/
def Rw (lo hi : Nat) (w : World) (v : Value) (zs : List Nat) : Prop :=
  Rd w .u32 v zs ∧ Wr w lo v ∧ ∀ a n c, v = .slice (some a) n c → lo ≤ a.block ∧ a.block < hi

theorem own_rw {w : World} {lo e : Nat} {v : Value} {zs : List Nat} (h : Own w lo e .u32 v zs) : Rw lo w.heap.size w v zs :=
  ⟨h.rd, own_wr h (Nat.le_refl _), fun a n c hv => by
    rcases h.2 with ⟨e1, _⟩ | ⟨g, cap, cur, e1, hg, hh, _⟩
    · rw [e1] at hv; cases hv
    · rw [e1] at hv
      cases hv
      exact ⟨hg, (Array.getElem?_eq_some_iff.1 hh).1⟩⟩

theorem Rw.later {lo hi : Nat} {w w' : World} {v : Value} {zs : List Nat} (h : Rw lo hi w v zs) (hb : Below w.heap.size w w') : Rw lo hi w' v zs := ⟨h.1.later hb, h.2.1.later hb, h.2.2⟩

theorem wr_block {w w' : World} {lo : Nat} {v : Value} (h : Wr w lo v) (hb : ∀ a n c, v = .slice (some a) n c → w'.heap[a.block]? = w.heap[a.block]?) : Wr w' lo v := by
  obtain ⟨ao, n, c, rfl, hc, hm, h⟩ := h
  refine ⟨ao, n, c, rfl, hc, hm, fun hn => ?_⟩
  obtain ⟨b, ty, vs, rfl, h2, hl, h3⟩ := h hn
  exact ⟨b, ty, vs, rfl, h2, (hb _ _ _ rfl).trans hl, h3⟩

theorem Rw.but {lo hi b : Nat} {w w' : World} {v : Value} {zs : List Nat} (h : Rw lo hi w v zs) (hb : But b w w') (hlt : b < lo) : Rw lo hi w' v zs :=
  ⟨hb.rd h.1 (fun _ a n c e e2 => by have := (h.2.2 a n c e).1; omega), wr_block h.2.1 (fun a n c e => hb.block _ (by have := (h.2.2 a n c e).1; omega)), h.2.2⟩

theorem Rw.spoilt {lo hi lo' hi' base : Nat} {w w' : World} {v u : Value} {zs ys : List Nat} (h : Rw lo hi w v zs) (hu : Rw lo' hi' w u ys) (hs : Spoilt base u w w') (hd : hi' ≤ lo) : Rw lo hi w' v zs :=
  ⟨hs.rdU h.1 (fun a n c a' n' c' e e' => by have := (hu.2.2 a n c e).2; have := (h.2.2 a' n' c' e').1; omega), hs.2.1 _ _ h.2.1, h.2.2⟩

theorem Wr.less {w : World} {lo lo' : Nat} {v : Value} (h : Wr w lo v) (hl : lo' ≤ lo) : Wr w lo' v := by
  obtain ⟨ao, n, c, rfl, hc, hm, h⟩ := h
  refine ⟨ao, n, c, rfl, hc, hm, fun hn => ?_⟩
  obtain ⟨b, ty, vs, h1, h2, h3⟩ := h hn
  exact ⟨b, ty, vs, h1, Nat.le_trans hl h2, h3⟩

theorem Rw.off {lo hi b base : Nat} {w w' : World} {u : Value} {ys : List Nat} {ty : TypeId} {vs : List Value} (hu : Rw lo hi w u ys) (hs : Spoilt base u w w') (hl : LocE w b ty vs) (hd : b < lo ∨ hi ≤ b) : LocE w' b ty vs :=
  hs.loc hl (fun a n c e => by have := hu.2.2 a n c e; omega)

/-- What lies there while three numbers are spoilt. -/
def Inn (w4 : World) (ty : TypeId) (T : Nat → Trip) (m lo ps pc pm : Nat) (V0 V1 V2 : List Value) (r0 r1 r2 : Value) (z0 z1 z2 : List Nat) (k : Nat) (wv : World) : Prop :=
  Below w4.heap.size w4 wv ∧ LocE wv ps 25 V0 ∧ LocE wv pc 25 V1 ∧ LocE wv pm 25 V2 ∧ WasK ty w4.heap.size T (max m k) wv ∧ (k ≤ 0 → Rw lo ps wv r0 z0) ∧ (k ≤ 1 → Rw (ps + 1) pc wv r1 z1) ∧ (k ≤ 2 → Rw (pc + 1) pm wv r2 z2)

theorem Inn.later {w4 : World} {ty : TypeId} {T : Nat → Trip} {m lo ps pc pm : Nat} {V0 V1 V2 : List Value} {r0 r1 r2 : Value} {z0 z1 z2 : List Nat} {k : Nat} {wv w' : World} (h : Inn w4 ty T m lo ps pc pm V0 V1 V2 r0 r1 r2 z0 z1 z2 k wv) (hb : Below wv.heap.size wv w') (hle : w4.heap.size ≤ wv.heap.size) : Inn w4 ty T m lo ps pc pm V0 V1 V2 r0 r1 r2 z0 z1 z2 k w' := by
  obtain ⟨h1, h2, h3, h4, h5, h6, h7, h8⟩ := h
  exact ⟨h1.trans (hb.mono hle), h2.later hb, h3.later hb, h4.later hb, h5.later hb, fun h => (h6 h).later hb, fun h => (h7 h).later hb, fun h => (h8 h).later hb⟩

set_option maxRecDepth 100000 in
set_option maxHeartbeats 12800000 in
theorem restDyadsW (s : Bool) (ao : Option Addr) (la ca : Nat) (e : Int) (t : Bool) (bo : Option Addr) (lb cb : Nat) (f : Int) (n : Int) (qs : Bool) (no : Option Addr) (nl nc : Nat) (mo : Option Addr) (ml mc : Nat) (E R D L G : Int) (gr : Bool) (way : Int)
    (xs ys ns ms : List Nat) (u0s u1s u2s : Bool) (u0n u1n u2n : Nat) (u0e u1e u2e c0 c1 c2 : Int) (T : Nat → Trip) (J : Trip × Trip × Int) (pc : Int) (pt : PlaceT) (w : World)
    (HDB : ∀ w1, Below w.heap.size w w1 → Calls Tryz.prog 12 #[] w1 fun z w' => z = .returned (.bool true) ∧ Below w1.heap.size w1 w') (HBB : ∀ w1, Below w.heap.size w w1 → Calls Tryz.prog 10 #[] w1 fun z w' => z = .returned (.bool true) ∧ Below w1.heap.size w1 w') (HGB : ∀ w1, Below w.heap.size w w1 → Calls Tryz.prog 13 #[] w1 fun z w' => z = .returned (.bool true) ∧ Below w1.heap.size w1 w')
    (HT1 : ∀ w1, Below w.heap.size w w1 → Calls Tryz.prog 14 #[.slice ao la ca] w1 fun z w' => ∃ v, z = .returned v ∧ Rd w' .u32 v xs ∧ Below w1.heap.size w1 w') (HT2 : ∀ w1, Below w.heap.size w w1 → Calls Tryz.prog 14 #[.slice bo lb cb] w1 fun z w' => ∃ v, z = .returned v ∧ Rd w' .u32 v ys ∧ Below w1.heap.size w1 w') (HT3 : ∀ w1, Below w.heap.size w w1 → Calls Tryz.prog 14 #[.slice no nl nc] w1 fun z w' => ∃ v, z = .returned v ∧ Rd w' .u32 v ns ∧ Below w1.heap.size w1 w') (HT4 : ∀ w1, Below w.heap.size w w1 → Calls Tryz.prog 14 #[.slice mo ml mc] w1 fun z w' => ∃ v, z = .returned v ∧ Rd w' .u32 v ms ∧ Below w1.heap.size w1 w')
    (HAD : ∀ w1, Below w.heap.size w w1 → Calls Tryz.prog 15 #[.agg #[.bool s, .slice ao la ca, .int .i64 e], .agg #[.bool t, .slice bo lb cb, .int .i64 f]] w1 (DAns w1 (⟨u0s, u0n, u0e⟩, c0)))
    (HCU : ∀ w1, Below w.heap.size w w1 → Calls Tryz.prog 16 #[.agg #[.bool s, .slice ao la ca, .int .i64 e], .int .i64 n, .bool true] w1 (DAns w1 (⟨u1s, u1n, u1e⟩, c1)))
    (HBA : ∀ w1, Below w.heap.size w w1 → Calls Tryz.prog 17 #[.agg #[.bool s, .slice ao la ca, .int .i64 e]] w1 (DAns w1 (⟨u2s, u2n, u2e⟩, c2)))
    (HJO : ∀ w1, Below w.heap.size w w1 → Calls Tryz.prog 21 #[.agg #[.bool s, .slice ao la ca, .int .i64 e, .bool s, .slice ao la ca, .int .i64 e], .agg #[.bool t, .slice bo lb cb, .int .i64 f, .bool t, .slice bo lb cb, .int .i64 f], .int .i64 n] w1 (BOwn w1 J))
    (HRO : ∀ w1, Below w.heap.size w w1 → Calls Tryz.prog 22 #[.agg #[.bool qs, .slice no nl nc, .slice mo ml mc, .int .i64 E], .agg #[.int .i64 R, .int .i64 D, .int .i64 L, .int .i64 G, .bool gr], .int .i64 way] w1 (PlaceAns w1 pc pt))
    (HO0 : ∀ v0o v0c w1, Rd w1 .u32 (.slice v0o (Dg.dg 4294967296 u0n).length v0c) (Dg.dg 4294967296 u0n) → Calls Tryz.prog 18 #[.agg #[.bool u0s, .slice v0o (Dg.dg 4294967296 u0n).length v0c, .int .i64 u0e]] w1 (RDResF w1 (T 0)))
    (HO1 : ∀ v1o v1c w1, Rd w1 .u32 (.slice v1o (Dg.dg 4294967296 u1n).length v1c) (Dg.dg 4294967296 u1n) → Calls Tryz.prog 18 #[.agg #[.bool u1s, .slice v1o (Dg.dg 4294967296 u1n).length v1c, .int .i64 u1e]] w1 (RDResF w1 (T 1)))
    (HO2 : ∀ v2o v2c w1, Rd w1 .u32 (.slice v2o (Dg.dg 4294967296 u2n).length v2c) (Dg.dg 4294967296 u2n) → Calls Tryz.prog 18 #[.agg #[.bool u2s, .slice v2o (Dg.dg 4294967296 u2n).length v2c, .int .i64 u2e]] w1 (RDResF w1 (T 2)))
    (HDC : ∀ k o c o' c' w1, k < 3 → Rd w1 .i64 (.slice o (Dg.dg 65536 (T k).n).length c) (Dg.dg 65536 (T k).n) → Rd w1 .i64 (.slice o' (Dg.dg 65536 (T k).n).length c') (Dg.dg 65536 (T k).n) → Calls Tryz.prog 19 #[.agg #[.bool (T k).s, .slice o (Dg.dg 65536 (T k).n).length c, .int .i64 (T k).e], .agg #[.bool (T k).s, .slice o' (Dg.dg 65536 (T k).n).length c', .int .i64 (T k).e]] w1 fun z w' => z = .returned (.int .i64 0) ∧ Below w1.heap.size w1 w')
    (HS1 : ∀ u w1, Below w.heap.size w w1 → Rd w1 .u32 u xs → Calls Tryz.prog 23 #[.slice ao la ca, u] w1 fun z w' => z = .returned (.bool true) ∧ Below w1.heap.size w1 w') (HS2 : ∀ u w1, Below w.heap.size w w1 → Rd w1 .u32 u ys → Calls Tryz.prog 23 #[.slice bo lb cb, u] w1 fun z w' => z = .returned (.bool true) ∧ Below w1.heap.size w1 w') (HS3 : ∀ u w1, Below w.heap.size w w1 → Rd w1 .u32 u ns → Calls Tryz.prog 23 #[.slice no nl nc, u] w1 fun z w' => z = .returned (.bool true) ∧ Below w1.heap.size w1 w') (HS4 : ∀ u w1, Below w.heap.size w w1 → Rd w1 .u32 u ms → Calls Tryz.prog 23 #[.slice mo ml mc, u] w1 fun z w' => z = .returned (.bool true) ∧ Below w1.heap.size w1 w') :
    Calls Tryz.prog 4 #[.agg #[.bool s, .slice ao la ca, .int .i64 e], .agg #[.bool t, .slice bo lb cb, .int .i64 f], .int .i64 n, .agg #[.bool qs, .slice no nl nc, .slice mo ml mc, .int .i64 E], .agg #[.int .i64 R, .int .i64 D, .int .i64 L, .int .i64 G, .bool gr], .int .i64 way] w fun z w' => z = .returned (.bool true) ∧ Below w.heap.size w w' := by
  obtain ⟨⟨js, jn, je⟩, ⟨ks, kn, ke⟩, jc⟩ := J
  obtain ⟨ps, pd, pp, px, po, pu⟩ := pt
  replace HDB : Hid _ := HDB
  replace HBB : Hid _ := HBB
  replace HGB : Hid _ := HGB
  replace HT1 : Hid _ := HT1
  replace HT2 : Hid _ := HT2
  replace HT3 : Hid _ := HT3
  replace HT4 : Hid _ := HT4
  replace HAD : Hid _ := HAD
  replace HCU : Hid _ := HCU
  replace HBA : Hid _ := HBA
  replace HJO : Hid _ := HJO
  replace HRO : Hid _ := HRO
  replace HO0 : Hid _ := HO0
  replace HO1 : Hid _ := HO1
  replace HO2 : Hid _ := HO2
  replace HDC : Hid _ := HDC
  replace HS1 : Hid _ := HS1
  replace HS2 : Hid _ := HS2
  replace HS3 : Hid _ := HS3
  replace HS4 : Hid _ := HS4
  have S0 : Stay [.bool s, .slice ao la ca, .int .i64 e] [.bool t, .slice bo lb cb, .int .i64 f] [.bool qs, .slice no nl nc, .slice mo ml mc, .int .i64 E] [.int .i64 R, .int .i64 D, .int .i64 L, .int .i64 G, .bool gr] w ((((w.alloc (.cells #[.bool s, .slice ao la ca, .int .i64 e] 25)).alloc (.cells #[.bool t, .slice bo lb cb, .int .i64 f] 25)).alloc (.cells #[.bool qs, .slice no nl nc, .slice mo ml mc, .int .i64 E] 44)).alloc (.cells #[.int .i64 R, .int .i64 D, .int .i64 L, .int .i64 G, .bool gr] 46)) := by
    refine ⟨?_, ?_, ?_, ?_, below_trans (below_trans (below_trans (below_alloc w _) (below_alloc _ _)) (below_alloc _ _)) (below_alloc _ _)⟩
    · exact (((locE_new w [.bool s, .slice ao la ca, .int .i64 e] 25).later (below_alloc _ (.cells #[.bool t, .slice bo lb cb, .int .i64 f] 25))).later (below_alloc _ (.cells #[.bool qs, .slice no nl nc, .slice mo ml mc, .int .i64 E] 44))).later (below_alloc _ (.cells #[.int .i64 R, .int .i64 D, .int .i64 L, .int .i64 G, .bool gr] 46))
    · have := ((locE_new (w.alloc (.cells #[.bool s, .slice ao la ca, .int .i64 e] 25)) [.bool t, .slice bo lb cb, .int .i64 f] 25).later (below_alloc _ (.cells #[.bool qs, .slice no nl nc, .slice mo ml mc, .int .i64 E] 44))).later (below_alloc _ (.cells #[.int .i64 R, .int .i64 D, .int .i64 L, .int .i64 G, .bool gr] 46))
      simpa only [World.size_alloc] using this
    · have := (locE_new ((w.alloc (.cells #[.bool s, .slice ao la ca, .int .i64 e] 25)).alloc (.cells #[.bool t, .slice bo lb cb, .int .i64 f] 25)) [.bool qs, .slice no nl nc, .slice mo ml mc, .int .i64 E] 44).later (below_alloc _ (.cells #[.int .i64 R, .int .i64 D, .int .i64 L, .int .i64 G, .bool gr] 46))
      simpa only [World.size_alloc] using this
    · have := locE_new (((w.alloc (.cells #[.bool s, .slice ao la ca, .int .i64 e] 25)).alloc (.cells #[.bool t, .slice bo lb cb, .int .i64 f] 25)).alloc (.cells #[.bool qs, .slice no nl nc, .slice mo ml mc, .int .i64 E] 44)) [.int .i64 R, .int .i64 D, .int .i64 L, .int .i64 G, .bool gr] 46
      simpa only [World.size_alloc] using this
  go_enter Tryz.func4, Tryz.ntmps4
  go_wp2_with fail
  refine (HDB.out _ S0.below).mono ?_
  rintro z wa ⟨rfl, b1⟩
  replace S0 := S0.later b1
  clear b1
  go_wp2_with fail
  refine (HBB.out _ S0.below).mono ?_
  rintro z wb ⟨rfl, b1⟩
  replace S0 := S0.later b1
  clear b1
  go_wp2_with fail
  refine (HGB.out _ S0.below).mono ?_
  rintro z wc0 ⟨rfl, b1⟩
  replace S0 := S0.later b1
  clear b1
  have SD : Stay [.bool s, .slice ao la ca, .int .i64 e] [.bool t, .slice bo lb cb, .int .i64 f] [.bool qs, .slice no nl nc, .slice mo ml mc, .int .i64 E] [.int .i64 R, .int .i64 D, .int .i64 L, .int .i64 G, .bool gr] w wc0.drew := S0.later ((Below.refl _ _).drew)
  have x1 := SD.1.cell 1 rfl
  have x2 := SD.2.1.cell 1 rfl
  go_upto_region 3 with fail
  go_cut [13, 14] (fun s13 s14 wx => Stay [.bool s, .slice ao la ca, .int .i64 e] [.bool t, .slice bo lb cb, .int .i64 f] [.bool qs, .slice no nl nc, .slice mo ml mc, .int .i64 E] [.int .i64 R, .int .i64 D, .int .i64 L, .int .i64 G, .bool gr] w wx ∧ Rd wx .u32 s13 xs ∧ Rd wx .u32 s14 ys)
  case first =>
    go_wp2_with fail
    go_region_held3 (fun wq => wq.cell? ⟨w.heap.size, 1, none⟩ = some (.slice ao la ca) ∧ wq.cell? ⟨w.heap.size + 1, 1, none⟩ = some (.slice bo lb cb)) (go_keep) (first
      | (go_at_call 14; (with_reducible (refine (HT1.out _ (Stay.below (by assumption))).mono ?_)); rintro z wq ⟨v, rfl, rv, bb⟩; obtain ⟨o, c, hv⟩ := rv.shape; subst hv; have Fq : Stay [.bool s, .slice ao la ca, .int .i64 e] [.bool t, .slice bo lb cb, .int .i64 f] [.bool qs, .slice no nl nc, .slice mo ml mc, .int .i64 E] [.int .i64 R, .int .i64 D, .int .i64 L, .int .i64 G, .bool gr] w wq := Stay.later (by assumption) bb; have x1 := Fq.1.cell 1 rfl; have x2 := Fq.2.1.cell 1 rfl; (first | (have hrow : Rd wq .u32 _ ys := Rd.later (by assumption) bb) | skip))
      | (go_at_call 14; (with_reducible (refine (HT2.out _ (Stay.below (by assumption))).mono ?_)); rintro z wq ⟨v, rfl, rv, bb⟩; obtain ⟨o, c, hv⟩ := rv.shape; subst hv; have Fq : Stay [.bool s, .slice ao la ca, .int .i64 e] [.bool t, .slice bo lb cb, .int .i64 f] [.bool qs, .slice no nl nc, .slice mo ml mc, .int .i64 E] [.int .i64 R, .int .i64 D, .int .i64 L, .int .i64 G, .bool gr] w wq := Stay.later (by assumption) bb; have x1 := Fq.1.cell 1 rfl; have x2 := Fq.2.1.cell 1 rfl; (first | (have hrow : Rd wq .u32 _ xs := Rd.later (by assumption) bb) | skip)))
    all_goals (go_wp2_with fail)
    all_goals (go_meet; exact ⟨by assumption, by assumption, by assumption⟩)
  case rest =>
    clear SD x1 x2 S0  
    obtain ⟨S0, R13, R14⟩ := hcut
    obtain ⟨o13, k13, e13⟩ := R13.shape
    subst e13
    obtain ⟨o14, k14, e14⟩ := R14.shape
    subst e14
    have SD : Stay [.bool s, .slice ao la ca, .int .i64 e] [.bool t, .slice bo lb cb, .int .i64 f] [.bool qs, .slice no nl nc, .slice mo ml mc, .int .i64 E] [.int .i64 R, .int .i64 D, .int .i64 L, .int .i64 G, .bool gr] w wc.drew := S0.later ((Below.refl _ _).drew)
    have KD0 : Rd wc.drew .u32 (.slice o13 xs.length k13) xs := R13.later ((Below.refl _ _).drew)
    have KD1 : Rd wc.drew .u32 (.slice o14 ys.length k14) ys := R14.later ((Below.refl _ _).drew)
    have x1 := SD.2.2.1.cell 1 rfl
    have x2 := SD.2.2.1.cell 2 rfl
    go_upto_region 4 with fail
    go_cut [15, 16] (fun s15 s16 wx => Stay [.bool s, .slice ao la ca, .int .i64 e] [.bool t, .slice bo lb cb, .int .i64 f] [.bool qs, .slice no nl nc, .slice mo ml mc, .int .i64 E] [.int .i64 R, .int .i64 D, .int .i64 L, .int .i64 G, .bool gr] w wx ∧ Rd wx .u32 s15 ns ∧ Rd wx .u32 s16 ms ∧ Rd wx .u32 (.slice o13 xs.length k13) xs ∧ Rd wx .u32 (.slice o14 ys.length k14) ys)
    case first =>
      go_wp2_with fail
      go_region_held3 (fun wq => wq.cell? ⟨w.heap.size + 1 + 1, 1, none⟩ = some (.slice no nl nc) ∧ wq.cell? ⟨w.heap.size + 1 + 1, 2, none⟩ = some (.slice mo ml mc)) (go_keep) (first
        | (go_at_call 14; (with_reducible (refine (HT3.out _ (Stay.below (by assumption))).mono ?_)); rintro z wq ⟨v, rfl, rv, bb⟩; obtain ⟨o, c, hv⟩ := rv.shape; subst hv; have Fq : Stay [.bool s, .slice ao la ca, .int .i64 e] [.bool t, .slice bo lb cb, .int .i64 f] [.bool qs, .slice no nl nc, .slice mo ml mc, .int .i64 E] [.int .i64 R, .int .i64 D, .int .i64 L, .int .i64 G, .bool gr] w wq := Stay.later (by assumption) bb; have x1 := Fq.2.2.1.cell 1 rfl; have x2 := Fq.2.2.1.cell 2 rfl; (first | (have hrow : Rd wq .u32 _ ms := Rd.later (by assumption) bb) | skip); have K0 : Rd wq .u32 (.slice o13 xs.length k13) xs := Rd.later (by assumption) bb; have K1 : Rd wq .u32 (.slice o14 ys.length k14) ys := Rd.later (by assumption) bb)
        | (go_at_call 14; (with_reducible (refine (HT4.out _ (Stay.below (by assumption))).mono ?_)); rintro z wq ⟨v, rfl, rv, bb⟩; obtain ⟨o, c, hv⟩ := rv.shape; subst hv; have Fq : Stay [.bool s, .slice ao la ca, .int .i64 e] [.bool t, .slice bo lb cb, .int .i64 f] [.bool qs, .slice no nl nc, .slice mo ml mc, .int .i64 E] [.int .i64 R, .int .i64 D, .int .i64 L, .int .i64 G, .bool gr] w wq := Stay.later (by assumption) bb; have x1 := Fq.2.2.1.cell 1 rfl; have x2 := Fq.2.2.1.cell 2 rfl; (first | (have hrow : Rd wq .u32 _ ns := Rd.later (by assumption) bb) | skip); have K0 : Rd wq .u32 (.slice o13 xs.length k13) xs := Rd.later (by assumption) bb; have K1 : Rd wq .u32 (.slice o14 ys.length k14) ys := Rd.later (by assumption) bb))
      all_goals (go_wp2_with fail)
      all_goals (go_meet; exact ⟨by assumption, by assumption, by assumption, by assumption, by assumption⟩)
    case rest =>
      clear SD x1 x2 S0 KD0 KD1 R13 R14
      obtain ⟨S0, R15, R16, R13, R14⟩ := hcut
      obtain ⟨o15, k15, e15⟩ := R15.shape
      subst e15
      obtain ⟨o16, k16, e16⟩ := R16.shape
      subst e16
      obtain ⟨w4, hw4⟩ : ∃ x, x = wc := ⟨_, rfl⟩
      subst hw4
      have W0 : WasK 48 w4.heap.size T 0 (w4.alloc (.cells #[.bool false, .slice none 0 0, .int .i64 0, .bool false, .slice none 0 0, .int .i64 0, .bool false, .slice none 0 0, .int .i64 0] 48)) := ⟨[.bool false, .slice none 0 0, .int .i64 0, .bool false, .slice none 0 0, .int .i64 0, .bool false, .slice none 0 0, .int .i64 0], locE_new w4 [.bool false, .slice none 0 0, .int .i64 0, .bool false, .slice none 0 0, .int .i64 0, .bool false, .slice none 0 0, .int .i64 0] 48, rfl, fun j hj => absurd hj (Nat.not_lt_zero j)⟩
      have b5 := below_alloc w4 (.cells #[.bool false, .slice none 0 0, .int .i64 0, .bool false, .slice none 0 0, .int .i64 0, .bool false, .slice none 0 0, .int .i64 0] 48)
      have SH : Hid (Stay [.bool s, .slice ao la ca, .int .i64 e] [.bool t, .slice bo lb cb, .int .i64 f] [.bool qs, .slice no nl nc, .slice mo ml mc, .int .i64 E] [.int .i64 R, .int .i64 D, .int .i64 L, .int .i64 G, .bool gr] w w4) := S0
      have RH : Hid (Rd w4 .u32 (.slice o13 xs.length k13) xs ∧ Rd w4 .u32 (.slice o14 ys.length k14) ys ∧ Rd w4 .u32 (.slice o15 ns.length k15) ns ∧ Rd w4 .u32 (.slice o16 ms.length k16) ms) := ⟨R13, R14, R15, R16⟩
      clear S0 R13 R14 R15 R16
      go_wp2_with fail
      go_loopw [18] (fun iv wr => ∃ i m : Nat, i ≤ 2 ∧ iv = .int .i64 i ∧ (1 ≤ i → m = 3) ∧ m ≤ 3 ∧ Below w4.heap.size w4 wr ∧ WasK 48 w4.heap.size T m wr) (fun iv _ => 2 - (intOf iv).toNat)
      case atStart => exact ⟨0, 0, by omega, rfl, fun h => by omega, by omega, b5, W0⟩
      case round =>
        clear W0 b5
        obtain ⟨w5, hw5⟩ : ∃ x, x = wr := ⟨_, rfl⟩
        subst hw5
        obtain ⟨i, m, hi2, rfl, him, hm3, bel, WK⟩ := hrel
        by_cases hlt : i < 2
        · skip
          have S1 : Stay [.bool s, .slice ao la ca, .int .i64 e] [.bool t, .slice bo lb cb, .int .i64 f] [.bool qs, .slice no nl nc, .slice mo ml mc, .int .i64 E] [.int .i64 R, .int .i64 D, .int .i64 L, .int .i64 G, .bool gr] w w5 := SH.out.later bel
          have hpw : w4.heap.size < w5.heap.size := by obtain ⟨vs, h1, -, -⟩ := WK; exact h1.lt
          have x0 := S1.1.cell 0 rfl
          have x1 := S1.1.cell 1 rfl
          have x2 := S1.1.cell 2 rfl
          have y0 := S1.2.1.cell 0 rfl
          have y1 := S1.2.1.cell 1 rfl
          have y2 := S1.2.1.cell 2 rfl
          go_wp2_with fail
          refine (HAD.out _ S1.below).mono ?_
          rintro z wa ⟨va, rfl, oa, ba⟩
          have q0 := own_rw oa
          obtain ⟨v0o, v0c, hva⟩ := oa.rd.shape
          subst hva
          simp only at q0 ⊢
          clear oa x0 x1 x2 y0 y1 y2
          have lp0 := locE_new wa [.bool u0s, .slice v0o (Dg.dg 4294967296 u0n).length v0c, .int .i64 u0e] 25
          have bb := below_trans ba (below_alloc wa (.cells #[.bool u0s, .slice v0o (Dg.dg 4294967296 u0n).length v0c, .int .i64 u0e] 25))
          replace S1 := S1.later bb
          replace WK := WK.later bb
          replace q0 := q0.later (below_alloc wa (.cells #[.bool u0s, .slice v0o (Dg.dg 4294967296 u0n).length v0c, .int .i64 u0e] 25))
          have hs0 : w5.heap.size ≤ wa.heap.size := ba.size
          have bel0 : Below w4.heap.size w4 (wa.alloc (.cells #[.bool u0s, .slice v0o (Dg.dg 4294967296 u0n).length v0c, .int .i64 u0e] 25)) := below_trans bel bb
          clear bb ba
          go_upto_region 10 with fail
          generalize hW0 : wa.alloc (.cells #[.bool u0s, .slice v0o (Dg.dg 4294967296 u0n).length v0c, .int .i64 u0e] 25) = W1 at S1 WK lp0 q0 bel0 ⊢
          have hz0 : W1.heap.size = wa.heap.size + 1 := by rw [← hW0, World.size_alloc]
          clear hW0
          generalize wa.heap.size = PS at lp0 q0 hs0 hz0 ⊢
          have x0 := S1.1.cell 0 rfl
          have x1 := S1.1.cell 1 rfl
          have x2 := S1.1.cell 2 rfl
          go_wp2_with fail
          refine (HCU.out _ S1.below).mono ?_
          rintro z wa ⟨va, rfl, oa, ba⟩
          have q1 := own_rw oa
          obtain ⟨v1o, v1c, hva⟩ := oa.rd.shape
          subst hva
          simp only at q1 ⊢
          clear oa x0 x1 x2
          have lp1 := locE_new wa [.bool u1s, .slice v1o (Dg.dg 4294967296 u1n).length v1c, .int .i64 u1e] 25
          have bb := below_trans ba (below_alloc wa (.cells #[.bool u1s, .slice v1o (Dg.dg 4294967296 u1n).length v1c, .int .i64 u1e] 25))
          replace S1 := S1.later bb
          replace WK := WK.later bb
          replace lp0 := lp0.later bb
          replace q0 := q0.later bb
          replace q1 := q1.later (below_alloc wa (.cells #[.bool u1s, .slice v1o (Dg.dg 4294967296 u1n).length v1c, .int .i64 u1e] 25))
          have hs1 : W1.heap.size ≤ wa.heap.size := ba.size
          have bel1 : Below w4.heap.size w4 (wa.alloc (.cells #[.bool u1s, .slice v1o (Dg.dg 4294967296 u1n).length v1c, .int .i64 u1e] 25)) := below_trans bel0 bb
          clear bb ba
          go_upto_region 11 with fail
          generalize hW1 : wa.alloc (.cells #[.bool u1s, .slice v1o (Dg.dg 4294967296 u1n).length v1c, .int .i64 u1e] 25) = W2 at S1 WK lp0 lp1 q0 q1 bel1 ⊢
          have hz1 : W2.heap.size = wa.heap.size + 1 := by rw [← hW1, World.size_alloc]
          clear hW1
          generalize wa.heap.size = PC at lp1 q1 hs1 hz1 ⊢
          have x0 := S1.1.cell 0 rfl
          have x1 := S1.1.cell 1 rfl
          have x2 := S1.1.cell 2 rfl
          go_wp2_with fail
          refine (HBA.out _ S1.below).mono ?_
          rintro z wa ⟨va, rfl, oa, ba⟩
          have q2 := own_rw oa
          obtain ⟨v2o, v2c, hva⟩ := oa.rd.shape
          subst hva
          simp only at q2 ⊢
          clear oa x0 x1 x2
          have lp2 := locE_new wa [.bool u2s, .slice v2o (Dg.dg 4294967296 u2n).length v2c, .int .i64 u2e] 25
          have bb := below_trans ba (below_alloc wa (.cells #[.bool u2s, .slice v2o (Dg.dg 4294967296 u2n).length v2c, .int .i64 u2e] 25))
          replace S1 := S1.later bb
          replace WK := WK.later bb
          replace lp0 := lp0.later bb
          replace lp1 := lp1.later bb
          replace q0 := q0.later bb
          replace q1 := q1.later bb
          replace q2 := q2.later (below_alloc wa (.cells #[.bool u2s, .slice v2o (Dg.dg 4294967296 u2n).length v2c, .int .i64 u2e] 25))
          have hs2 : W2.heap.size ≤ wa.heap.size := ba.size
          have bel2 : Below w4.heap.size w4 (wa.alloc (.cells #[.bool u2s, .slice v2o (Dg.dg 4294967296 u2n).length v2c, .int .i64 u2e] 25)) := below_trans bel1 bb
          clear bb ba
          go_upto_region 12 with fail
          generalize hW2 : wa.alloc (.cells #[.bool u2s, .slice v2o (Dg.dg 4294967296 u2n).length v2c, .int .i64 u2e] 25) = W3 at S1 WK lp0 lp1 lp2 q0 q1 q2 bel2 ⊢
          have hz2 : W3.heap.size = wa.heap.size + 1 := by rw [← hW2, World.size_alloc]
          clear hW2
          generalize wa.heap.size = PM at lp2 q2 hs2 hz2 ⊢
          have o01 : PS < PC := by omega
          have o12 : PC < PM := by omega
          have o0 : w5.heap.size ≤ PS := hs0
          rw [hz0] at q1
          rw [hz1] at q2
          have IN0 : Hid (Inn w4 48 T m w5.heap.size PS PC PM [.bool u0s, .slice v0o (Dg.dg 4294967296 u0n).length v0c, .int .i64 u0e] [.bool u1s, .slice v1o (Dg.dg 4294967296 u1n).length v1c, .int .i64 u1e] [.bool u2s, .slice v2o (Dg.dg 4294967296 u2n).length v2c, .int .i64 u2e] (.slice v0o (Dg.dg 4294967296 u0n).length v0c) (.slice v1o (Dg.dg 4294967296 u1n).length v1c) (.slice v2o (Dg.dg 4294967296 u2n).length v2c) (Dg.dg 4294967296 u0n) (Dg.dg 4294967296 u1n) (Dg.dg 4294967296 u2n) 0 W3) := ⟨bel2, lp0, lp1, lp2, by rw [Nat.max_eq_left (Nat.zero_le _)]; exact WK, fun _ => q0, fun _ => q1, fun _ => q2⟩
          clear q0 q1 q2 lp0 lp1 lp2 WK bel0 bel1 bel2 hs0 hs1 hs2 hz0 hz1 hz2 S1
          go_wp2_with fail
          rw [show decide ((i : Int) < 2) = true from decide_eq_true (by omega)]
          go_loopw [25] (fun kv wv => ∃ k : Nat, k ≤ 3 ∧ kv = .int .i64 k ∧ Inn w4 48 T m w5.heap.size PS PC PM [.bool u0s, .slice v0o (Dg.dg 4294967296 u0n).length v0c, .int .i64 u0e] [.bool u1s, .slice v1o (Dg.dg 4294967296 u1n).length v1c, .int .i64 u1e] [.bool u2s, .slice v2o (Dg.dg 4294967296 u2n).length v2c, .int .i64 u2e] (.slice v0o (Dg.dg 4294967296 u0n).length v0c) (.slice v1o (Dg.dg 4294967296 u1n).length v1c) (.slice v2o (Dg.dg 4294967296 u2n).length v2c) (Dg.dg 4294967296 u0n) (Dg.dg 4294967296 u1n) (Dg.dg 4294967296 u2n) k wv) (fun kv _ => 3 - (intOf kv).toNat)
          case atStart => exact ⟨0, by omega, rfl, IN0.out⟩
          case round =>
            obtain ⟨wv, hwv⟩ : ∃ x, x = wr := ⟨_, rfl⟩
            subst hwv
            clear IN0
            obtain ⟨k, hk3, rfl, IN⟩ := hrel
            by_cases hk : k < 3
            · obtain ⟨A0, L0, L1, L2, WK, Q0, Q1, Q2⟩ := IN
              have hsz : w4.heap.size ≤ wv.heap.size := A0.size
              have fa0 := L0.cell 0 rfl
              have fa1 := L0.cell 1 rfl
              have fa2 := L0.cell 2 rfl
              have fb0 := L1.cell 0 rfl
              have fb1 := L1.cell 1 rfl
              have fb2 := L1.cell 2 rfl
              have fc0 := L2.cell 0 rfl
              have fc1 := L2.cell 1 rfl
              have fc2 := L2.cell 2 rfl
              have hk012 : k = 0 ∨ k = 1 ∨ k = 2 := by omega
              rcases hk012 with rfl | rfl | rfl
              · skip
                have QK := Q0 (by omega)
                have bz : Below wv.heap.size wv ((wv.alloc (.cells #[.bool u0s, .slice v0o (Dg.dg 4294967296 u0n).length v0c, .int .i64 u0e, .bool u1s, .slice v1o (Dg.dg 4294967296 u1n).length v1c, .int .i64 u1e, .bool u2s, .slice v2o (Dg.dg 4294967296 u2n).length v2c, .int .i64 u2e] 25)).alloc (.cells #[.bool u0s, .slice v0o (Dg.dg 4294967296 u0n).length v0c, .int .i64 u0e] 25)) := below_trans (below_alloc wv _) (below_alloc _ _)
                have lz := locE_new (wv.alloc (.cells #[.bool u0s, .slice v0o (Dg.dg 4294967296 u0n).length v0c, .int .i64 u0e, .bool u1s, .slice v1o (Dg.dg 4294967296 u1n).length v1c, .int .i64 u1e, .bool u2s, .slice v2o (Dg.dg 4294967296 u2n).length v2c, .int .i64 u2e] 25)) [.bool u0s, .slice v0o (Dg.dg 4294967296 u0n).length v0c, .int .i64 u0e] 25
                have hpm : PM < wv.heap.size := L2.lt
                replace L0 := L0.later bz
                replace L1 := L1.later bz
                replace L2 := L2.later bz
                replace WK := WK.later bz
                replace QK := QK.later bz
                have R1 := (Q1 (by omega)).later bz
                have R2 := (Q2 (by omega)).later bz
                replace A0 : Below w4.heap.size w4 ((wv.alloc (.cells #[.bool u0s, .slice v0o (Dg.dg 4294967296 u0n).length v0c, .int .i64 u0e, .bool u1s, .slice v1o (Dg.dg 4294967296 u1n).length v1c, .int .i64 u1e, .bool u2s, .slice v2o (Dg.dg 4294967296 u2n).length v2c, .int .i64 u2e] 25)).alloc (.cells #[.bool u0s, .slice v0o (Dg.dg 4294967296 u0n).length v0c, .int .i64 u0e] 25)) := A0.trans (bz.mono hsz)
                clear Q0 Q1 Q2 bz hsz
                go_upto_region 16 with fail
                clear fa0 fa1 fa2 fb0 fb1 fb2 fc0 fc1 fc2
                simp only [World.size_alloc] at lz
                generalize ((wv.alloc (.cells #[.bool u0s, .slice v0o (Dg.dg 4294967296 u0n).length v0c, .int .i64 u0e, .bool u1s, .slice v1o (Dg.dg 4294967296 u1n).length v1c, .int .i64 u1e, .bool u2s, .slice v2o (Dg.dg 4294967296 u2n).length v2c, .int .i64 u2e] 25)).alloc (.cells #[.bool u0s, .slice v0o (Dg.dg 4294967296 u0n).length v0c, .int .i64 u0e] 25)) = WZ at L0 L1 L2 WK QK lz R1 R2 A0 ⊢
                have hPZ : PM < wv.heap.size + 1 := by omega
                generalize wv.heap.size + 1 = PZ at lz hPZ ⊢
                clear hpm
                have z0 := lz.cell 0 rfl
                have z1 := lz.cell 1 rfl
                have z2 := lz.cell 2 rfl
                go_wp2_with fail
                refine (HO0.out _ _ _ QK.1).mono ?_
                rintro z wo ⟨vo, rfl, ro, fo, bo1⟩
                obtain ⟨tq, tk, hvo⟩ := ro.shape
                subst hvo
                simp only at ro fo ⊢
                clear z0 z1 z2
                have hfa : Far (w4.heap.size + 1) (.slice tq (Dg.dg 65536 (T 0).n).length tk) := fo.mono (by have := L2.lt; omega)
                have lt := locE_new wo [.bool (T 0).s, .slice tq (Dg.dg 65536 (T 0).n).length tk, .int .i64 (T 0).e] 34
                have bt := below_trans bo1 (below_alloc wo (.cells #[.bool (T 0).s, .slice tq (Dg.dg 65536 (T 0).n).length tk, .int .i64 (T 0).e] 34))
                have hPD : PZ < wo.heap.size := Nat.lt_of_lt_of_le lz.lt bo1.size
                have hle : w4.heap.size ≤ WZ.heap.size := A0.size
                replace L0 := L0.later bt
                replace L1 := L1.later bt
                replace L2 := L2.later bt
                replace WK := WK.later bt
                replace QK := QK.later bt
                replace lz := lz.later bt
                replace R1 := R1.later bt
                replace R2 := R2.later bt
                replace ro := ro.later (below_alloc wo (.cells #[.bool (T 0).s, .slice tq (Dg.dg 65536 (T 0).n).length tk, .int .i64 (T 0).e] 34))
                replace A0 := A0.trans (bt.mono hle)
                clear bt bo1 fo hle
                go_upto_region 17 with fail
                generalize wo.alloc (.cells #[.bool (T 0).s, .slice tq (Dg.dg 65536 (T 0).n).length tk, .int .i64 (T 0).e] 34) = WT at L0 L1 L2 WK QK lz R1 R2 lt ro A0 ⊢
                generalize wo.heap.size = PD at lt hPD ⊢
                go_cut [96] from 74 to 102 (fun s96 wx => s96 = .bool false ∧ Below WT.heap.size WT wx)
                case first =>
                  by_cases hi1 : i = 1
                  · have hm := him (by omega)
                    subst hm hi1
                    obtain ⟨po, pk, g0, g1, g2, gr1⟩ := (WK.later ((Below.refl _ _).drew)).get 0 (by omega)
                    replace ro := ro.later ((Below.refl _ WT).drew)
                    replace lt := lt.later ((Below.refl _ WT).drew)
                    have t0 := lt.cell 0 rfl
                    have t1 := lt.cell 1 rfl
                    have t2 := lt.cell 2 rfl
                    simp only [Nat.mul_zero, Nat.zero_add] at g0 g1 g2
                    go_wp2_with fail
                    go_region_held3 (fun wq => (wq.cell? ⟨PD, 0, none⟩ = some (.bool (T 0).s) ∧ wq.cell? ⟨PD, 1, none⟩ = some (.slice tq (Dg.dg 65536 (T 0).n).length tk) ∧ wq.cell? ⟨PD, 2, none⟩ = some (.int .i64 (T 0).e)) ∧ wq.cell? ⟨w4.heap.size, 0, none⟩ = some (.bool (T 0).s) ∧ wq.cell? ⟨w4.heap.size, 1, none⟩ = some (.slice po (Dg.dg 65536 (T 0).n).length pk) ∧ wq.cell? ⟨w4.heap.size, 2, none⟩ = some (.int .i64 (T 0).e)) (go_keep) (first
                      | (go_at_call 19; (with_reducible (refine (HDC.out 0 _ _ _ _ _ (by omega) ro gr1).mono ?_)); rintro z wq ⟨rfl, bq⟩; have bq2 := below_trans ((Below.refl _ WT).drew) bq; have lt2 := lt.later bq; have t3 := lt2.cell 0 rfl; have t4 := lt2.cell 1 rfl; have t5 := lt2.cell 2 rfl; have g3 := cell_later bq g0; have g4 := cell_later bq g1; have g5 := cell_later bq g2))
                    all_goals (go_wp2_with fail)
                    all_goals (go_meet; exact ⟨rfl, bq2⟩)
                  · have hif : ((i : Int) == 1) = false := by simp; omega
                    go_wp2_with fail
                    go_quiet (fail)
                    all_goals (go_wp2_with fail)
                    all_goals (go_meet; exact ⟨rfl, below_drewN (Below.refl _ _) _⟩)
                case rest =>
                  obtain ⟨rfl, bx⟩ := hcut
                  have hle := A0.size
                  replace L0 := L0.later bx
                  replace L1 := L1.later bx
                  replace L2 := L2.later bx
                  replace WK := WK.later bx
                  replace QK := QK.later bx
                  replace lz := lz.later bx
                  replace R1 := R1.later bx
                  replace R2 := R2.later bx
                  replace lt := lt.later bx
                  replace ro := ro.later bx
                  replace A0 := A0.trans (bx.mono hle)
                  clear hle bx
                  have t0 := lt.cell 0 rfl
                  obtain ⟨⟨w0, hw0⟩, hf0⟩ := WK.cell 0 (by omega)
                  have t1 := lt.cell 1 rfl
                  obtain ⟨⟨w1, hw1⟩, hf1⟩ := WK.cell 1 (by omega)
                  have t2 := lt.cell 2 rfl
                  obtain ⟨⟨w2, hw2⟩, hf2⟩ := WK.cell 2 (by omega)
                  go_upto_region 20 with fail
                  have bu : But w4.heap.size wc (((wc.setCell ⟨w4.heap.size, 0, none⟩ (.bool (T 0).s)).setCell ⟨w4.heap.size, 1, none⟩ (.slice tq (Dg.dg 65536 (T 0).n).length tk)).setCell ⟨w4.heap.size, 2, none⟩ (.int .i64 (T 0).e)) := ((but_set wc w4.heap.size 0 (.bool (T 0).s)).trans (but_set _ w4.heap.size 1 (.slice tq (Dg.dg 65536 (T 0).n).length tk))).trans (but_set _ w4.heap.size 2 (.int .i64 (T 0).e))
                  replace WK : WasK 48 w4.heap.size T (max (max m 0) (0 + 1)) (((wc.setCell ⟨w4.heap.size, 0, none⟩ (.bool (T 0).s)).setCell ⟨w4.heap.size, 1, none⟩ (.slice tq (Dg.dg 65536 (T 0).n).length tk)).setCell ⟨w4.heap.size, 2, none⟩ (.int .i64 (T 0).e)) := WK.put (k := 0) (by omega) (by omega) ro hfa
                  replace L0 := bu.loc L0 (by omega)
                  replace L1 := bu.loc L1 (by omega)
                  replace L2 := bu.loc L2 (by omega)
                  replace lz := bu.loc lz (by omega)
                  replace QK := QK.but bu (by omega)
                  replace R1 := R1.but bu (by omega)
                  replace R2 := R2.but bu (by omega)
                  replace A0 := bu.below A0 (Nat.le_refl _)
                  clear bu ro lt t0 t1 t2 hw0 hw1 hw2 hf0 hf1 hf2 hfa
                  generalize (((wc.setCell ⟨w4.heap.size, 0, none⟩ (.bool (T 0).s)).setCell ⟨w4.heap.size, 1, none⟩ (.slice tq (Dg.dg 65536 (T 0).n).length tk)).setCell ⟨w4.heap.size, 2, none⟩ (.int .i64 (T 0).e)) = WS at WK L0 L1 L2 lz QK R1 R2 A0 ⊢
                  have z1 := lz.cell 1 rfl
                  go_wp2_with fail
                  refine (spoil2_any _ _ _ QK.2.1).mono ?_
                  rintro z wsp ⟨⟨z9, rfl⟩, sp⟩
                  replace L0 := QK.off sp L0 (by omega)
                  replace L1 := QK.off sp L1 (by omega)
                  replace L2 := QK.off sp L2 (by omega)
                  replace R1 := R1.spoilt QK sp (by omega)
                  replace R2 := R2.spoilt QK sp (by omega)
                  replace WK := WK.spoilt sp (by omega)
                  replace A0 := A0.trans (sp.1.mono (by omega))
                  clear z1 lz QK sp
                  go_wp2_with fail
                  go_roundw
                  case rel => first | exact ⟨0 + 1, by omega, by go_num, A0, L0, L1, L2, by rw [show max m (0 + 1) = max (max m 0) (0 + 1) from by omega]; exact WK, fun h => absurd h (by omega), fun _ => R1, fun _ => R2⟩ | (repeat (first | exact ⟨⟨0 + 1, by omega, by go_num, A0, L0, L1, L2, by rw [show max m (0 + 1) = max (max m 0) (0 + 1) from by omega]; exact WK, fun h => absurd h (by omega), fun _ => R1, fun _ => R2⟩, rfl⟩ | apply Exists.intro))
                  case measure => simp [intOf]
              · skip
                rw [show ((1 : Nat) : Int) = (1 : Int) from rfl]
                have QK := Q1 (by omega)
                have bz : Below wv.heap.size wv ((wv.alloc (.cells #[.bool u0s, .slice v0o (Dg.dg 4294967296 u0n).length v0c, .int .i64 u0e, .bool u1s, .slice v1o (Dg.dg 4294967296 u1n).length v1c, .int .i64 u1e, .bool u2s, .slice v2o (Dg.dg 4294967296 u2n).length v2c, .int .i64 u2e] 25)).alloc (.cells #[.bool u1s, .slice v1o (Dg.dg 4294967296 u1n).length v1c, .int .i64 u1e] 25)) := below_trans (below_alloc wv _) (below_alloc _ _)
                have lz := locE_new (wv.alloc (.cells #[.bool u0s, .slice v0o (Dg.dg 4294967296 u0n).length v0c, .int .i64 u0e, .bool u1s, .slice v1o (Dg.dg 4294967296 u1n).length v1c, .int .i64 u1e, .bool u2s, .slice v2o (Dg.dg 4294967296 u2n).length v2c, .int .i64 u2e] 25)) [.bool u1s, .slice v1o (Dg.dg 4294967296 u1n).length v1c, .int .i64 u1e] 25
                have hpm : PM < wv.heap.size := L2.lt
                replace L0 := L0.later bz
                replace L1 := L1.later bz
                replace L2 := L2.later bz
                replace WK := WK.later bz
                replace QK := QK.later bz
                have R2 := (Q2 (by omega)).later bz
                replace A0 : Below w4.heap.size w4 ((wv.alloc (.cells #[.bool u0s, .slice v0o (Dg.dg 4294967296 u0n).length v0c, .int .i64 u0e, .bool u1s, .slice v1o (Dg.dg 4294967296 u1n).length v1c, .int .i64 u1e, .bool u2s, .slice v2o (Dg.dg 4294967296 u2n).length v2c, .int .i64 u2e] 25)).alloc (.cells #[.bool u1s, .slice v1o (Dg.dg 4294967296 u1n).length v1c, .int .i64 u1e] 25)) := A0.trans (bz.mono hsz)
                clear Q0 Q1 Q2 bz hsz
                go_upto_region 16 with fail
                clear fa0 fa1 fa2 fb0 fb1 fb2 fc0 fc1 fc2
                simp only [World.size_alloc] at lz
                generalize ((wv.alloc (.cells #[.bool u0s, .slice v0o (Dg.dg 4294967296 u0n).length v0c, .int .i64 u0e, .bool u1s, .slice v1o (Dg.dg 4294967296 u1n).length v1c, .int .i64 u1e, .bool u2s, .slice v2o (Dg.dg 4294967296 u2n).length v2c, .int .i64 u2e] 25)).alloc (.cells #[.bool u1s, .slice v1o (Dg.dg 4294967296 u1n).length v1c, .int .i64 u1e] 25)) = WZ at L0 L1 L2 WK QK lz R2 A0 ⊢
                have hPZ : PM < wv.heap.size + 1 := by omega
                generalize wv.heap.size + 1 = PZ at lz hPZ ⊢
                clear hpm
                have z0 := lz.cell 0 rfl
                have z1 := lz.cell 1 rfl
                have z2 := lz.cell 2 rfl
                go_wp2_with fail
                refine (HO1.out _ _ _ QK.1).mono ?_
                rintro z wo ⟨vo, rfl, ro, fo, bo1⟩
                obtain ⟨tq, tk, hvo⟩ := ro.shape
                subst hvo
                simp only at ro fo ⊢
                clear z0 z1 z2
                have hfa : Far (w4.heap.size + 1) (.slice tq (Dg.dg 65536 (T 1).n).length tk) := fo.mono (by have := L2.lt; omega)
                have lt := locE_new wo [.bool (T 1).s, .slice tq (Dg.dg 65536 (T 1).n).length tk, .int .i64 (T 1).e] 34
                have bt := below_trans bo1 (below_alloc wo (.cells #[.bool (T 1).s, .slice tq (Dg.dg 65536 (T 1).n).length tk, .int .i64 (T 1).e] 34))
                have hPD : PZ < wo.heap.size := Nat.lt_of_lt_of_le lz.lt bo1.size
                have hle : w4.heap.size ≤ WZ.heap.size := A0.size
                replace L0 := L0.later bt
                replace L1 := L1.later bt
                replace L2 := L2.later bt
                replace WK := WK.later bt
                replace QK := QK.later bt
                replace lz := lz.later bt
                replace R2 := R2.later bt
                replace ro := ro.later (below_alloc wo (.cells #[.bool (T 1).s, .slice tq (Dg.dg 65536 (T 1).n).length tk, .int .i64 (T 1).e] 34))
                replace A0 := A0.trans (bt.mono hle)
                clear bt bo1 fo hle
                go_upto_region 17 with fail
                generalize wo.alloc (.cells #[.bool (T 1).s, .slice tq (Dg.dg 65536 (T 1).n).length tk, .int .i64 (T 1).e] 34) = WT at L0 L1 L2 WK QK lz R2 lt ro A0 ⊢
                generalize wo.heap.size = PD at lt hPD ⊢
                go_cut [96] from 74 to 102 (fun s96 wx => s96 = .bool false ∧ Below WT.heap.size WT wx)
                case first =>
                  by_cases hi1 : i = 1
                  · have hm := him (by omega)
                    subst hm hi1
                    obtain ⟨po, pk, g0, g1, g2, gr1⟩ := (WK.later ((Below.refl _ _).drew)).get 1 (by omega)
                    replace ro := ro.later ((Below.refl _ WT).drew)
                    replace lt := lt.later ((Below.refl _ WT).drew)
                    have t0 := lt.cell 0 rfl
                    have t1 := lt.cell 1 rfl
                    have t2 := lt.cell 2 rfl
                    simp only [Nat.reduceMul, Nat.reduceAdd] at g0 g1 g2
                    go_wp2_with fail
                    go_region_held3 (fun wq => (wq.cell? ⟨PD, 0, none⟩ = some (.bool (T 1).s) ∧ wq.cell? ⟨PD, 1, none⟩ = some (.slice tq (Dg.dg 65536 (T 1).n).length tk) ∧ wq.cell? ⟨PD, 2, none⟩ = some (.int .i64 (T 1).e)) ∧ wq.cell? ⟨w4.heap.size, 3, none⟩ = some (.bool (T 1).s) ∧ wq.cell? ⟨w4.heap.size, 4, none⟩ = some (.slice po (Dg.dg 65536 (T 1).n).length pk) ∧ wq.cell? ⟨w4.heap.size, 5, none⟩ = some (.int .i64 (T 1).e)) (go_keep) (first
                      | (go_at_call 19; (with_reducible (refine (HDC.out 1 _ _ _ _ _ (by omega) ro gr1).mono ?_)); rintro z wq ⟨rfl, bq⟩; have bq2 := below_trans ((Below.refl _ WT).drew) bq; have lt2 := lt.later bq; have t3 := lt2.cell 0 rfl; have t4 := lt2.cell 1 rfl; have t5 := lt2.cell 2 rfl; have g3 := cell_later bq g0; have g4 := cell_later bq g1; have g5 := cell_later bq g2))
                    all_goals (go_wp2_with fail)
                    all_goals (go_meet; exact ⟨rfl, bq2⟩)
                  · have hif : ((i : Int) == 1) = false := by simp; omega
                    go_wp2_with fail
                    go_quiet (fail)
                    all_goals (go_wp2_with fail)
                    all_goals (go_meet; exact ⟨rfl, below_drewN (Below.refl _ _) _⟩)
                case rest =>
                  obtain ⟨rfl, bx⟩ := hcut
                  have hle := A0.size
                  replace L0 := L0.later bx
                  replace L1 := L1.later bx
                  replace L2 := L2.later bx
                  replace WK := WK.later bx
                  replace QK := QK.later bx
                  replace lz := lz.later bx
                  replace R2 := R2.later bx
                  replace lt := lt.later bx
                  replace ro := ro.later bx
                  replace A0 := A0.trans (bx.mono hle)
                  clear hle bx
                  have t0 := lt.cell 0 rfl
                  obtain ⟨⟨w0, hw0⟩, hf0⟩ := WK.cell 3 (by omega)
                  have t1 := lt.cell 1 rfl
                  obtain ⟨⟨w1, hw1⟩, hf1⟩ := WK.cell 4 (by omega)
                  have t2 := lt.cell 2 rfl
                  obtain ⟨⟨w2, hw2⟩, hf2⟩ := WK.cell 5 (by omega)
                  go_upto_region 20 with fail
                  have bu : But w4.heap.size wc (((wc.setCell ⟨w4.heap.size, 3, none⟩ (.bool (T 1).s)).setCell ⟨w4.heap.size, 4, none⟩ (.slice tq (Dg.dg 65536 (T 1).n).length tk)).setCell ⟨w4.heap.size, 5, none⟩ (.int .i64 (T 1).e)) := ((but_set wc w4.heap.size 3 (.bool (T 1).s)).trans (but_set _ w4.heap.size 4 (.slice tq (Dg.dg 65536 (T 1).n).length tk))).trans (but_set _ w4.heap.size 5 (.int .i64 (T 1).e))
                  replace WK : WasK 48 w4.heap.size T (max (max m 1) (1 + 1)) (((wc.setCell ⟨w4.heap.size, 3, none⟩ (.bool (T 1).s)).setCell ⟨w4.heap.size, 4, none⟩ (.slice tq (Dg.dg 65536 (T 1).n).length tk)).setCell ⟨w4.heap.size, 5, none⟩ (.int .i64 (T 1).e)) := WK.put (k := 1) (by omega) (by omega) ro hfa
                  replace L0 := bu.loc L0 (by omega)
                  replace L1 := bu.loc L1 (by omega)
                  replace L2 := bu.loc L2 (by omega)
                  replace lz := bu.loc lz (by omega)
                  replace QK := QK.but bu (by omega)
                  replace R2 := R2.but bu (by omega)
                  replace A0 := bu.below A0 (Nat.le_refl _)
                  clear bu ro lt t0 t1 t2 hw0 hw1 hw2 hf0 hf1 hf2 hfa
                  generalize (((wc.setCell ⟨w4.heap.size, 3, none⟩ (.bool (T 1).s)).setCell ⟨w4.heap.size, 4, none⟩ (.slice tq (Dg.dg 65536 (T 1).n).length tk)).setCell ⟨w4.heap.size, 5, none⟩ (.int .i64 (T 1).e)) = WS at WK L0 L1 L2 lz QK R2 A0 ⊢
                  have z1 := lz.cell 1 rfl
                  go_wp2_with fail
                  refine (spoil2_any _ _ _ QK.2.1).mono ?_
                  rintro z wsp ⟨⟨z9, rfl⟩, sp⟩
                  replace L0 := QK.off sp L0 (by omega)
                  replace L1 := QK.off sp L1 (by omega)
                  replace L2 := QK.off sp L2 (by omega)
                  replace R2 := R2.spoilt QK sp (by omega)
                  replace WK := WK.spoilt sp (by omega)
                  replace A0 := A0.trans (sp.1.mono (by omega))
                  clear z1 lz QK sp
                  go_wp2_with fail
                  go_roundw
                  case rel => first | exact ⟨1 + 1, by omega, by go_num, A0, L0, L1, L2, by rw [show max m (1 + 1) = max (max m 1) (1 + 1) from by omega]; exact WK, fun h => absurd h (by omega), fun h => absurd h (by omega), fun _ => R2⟩ | (repeat (first | exact ⟨⟨1 + 1, by omega, by go_num, A0, L0, L1, L2, by rw [show max m (1 + 1) = max (max m 1) (1 + 1) from by omega]; exact WK, fun h => absurd h (by omega), fun h => absurd h (by omega), fun _ => R2⟩, rfl⟩ | apply Exists.intro))
                  case measure => simp [intOf]
              · skip
                rw [show ((2 : Nat) : Int) = (2 : Int) from rfl]
                have QK := Q2 (by omega)
                have bz : Below wv.heap.size wv ((wv.alloc (.cells #[.bool u0s, .slice v0o (Dg.dg 4294967296 u0n).length v0c, .int .i64 u0e, .bool u1s, .slice v1o (Dg.dg 4294967296 u1n).length v1c, .int .i64 u1e, .bool u2s, .slice v2o (Dg.dg 4294967296 u2n).length v2c, .int .i64 u2e] 25)).alloc (.cells #[.bool u2s, .slice v2o (Dg.dg 4294967296 u2n).length v2c, .int .i64 u2e] 25)) := below_trans (below_alloc wv _) (below_alloc _ _)
                have lz := locE_new (wv.alloc (.cells #[.bool u0s, .slice v0o (Dg.dg 4294967296 u0n).length v0c, .int .i64 u0e, .bool u1s, .slice v1o (Dg.dg 4294967296 u1n).length v1c, .int .i64 u1e, .bool u2s, .slice v2o (Dg.dg 4294967296 u2n).length v2c, .int .i64 u2e] 25)) [.bool u2s, .slice v2o (Dg.dg 4294967296 u2n).length v2c, .int .i64 u2e] 25
                have hpm : PM < wv.heap.size := L2.lt
                replace L0 := L0.later bz
                replace L1 := L1.later bz
                replace L2 := L2.later bz
                replace WK := WK.later bz
                replace QK := QK.later bz
                replace A0 : Below w4.heap.size w4 ((wv.alloc (.cells #[.bool u0s, .slice v0o (Dg.dg 4294967296 u0n).length v0c, .int .i64 u0e, .bool u1s, .slice v1o (Dg.dg 4294967296 u1n).length v1c, .int .i64 u1e, .bool u2s, .slice v2o (Dg.dg 4294967296 u2n).length v2c, .int .i64 u2e] 25)).alloc (.cells #[.bool u2s, .slice v2o (Dg.dg 4294967296 u2n).length v2c, .int .i64 u2e] 25)) := A0.trans (bz.mono hsz)
                clear Q0 Q1 Q2 bz hsz
                go_upto_region 16 with fail
                clear fa0 fa1 fa2 fb0 fb1 fb2 fc0 fc1 fc2
                simp only [World.size_alloc] at lz
                generalize ((wv.alloc (.cells #[.bool u0s, .slice v0o (Dg.dg 4294967296 u0n).length v0c, .int .i64 u0e, .bool u1s, .slice v1o (Dg.dg 4294967296 u1n).length v1c, .int .i64 u1e, .bool u2s, .slice v2o (Dg.dg 4294967296 u2n).length v2c, .int .i64 u2e] 25)).alloc (.cells #[.bool u2s, .slice v2o (Dg.dg 4294967296 u2n).length v2c, .int .i64 u2e] 25)) = WZ at L0 L1 L2 WK QK lz A0 ⊢
                have hPZ : PM < wv.heap.size + 1 := by omega
                generalize wv.heap.size + 1 = PZ at lz hPZ ⊢
                clear hpm
                have z0 := lz.cell 0 rfl
                have z1 := lz.cell 1 rfl
                have z2 := lz.cell 2 rfl
                go_wp2_with fail
                refine (HO2.out _ _ _ QK.1).mono ?_
                rintro z wo ⟨vo, rfl, ro, fo, bo1⟩
                obtain ⟨tq, tk, hvo⟩ := ro.shape
                subst hvo
                simp only at ro fo ⊢
                clear z0 z1 z2
                have hfa : Far (w4.heap.size + 1) (.slice tq (Dg.dg 65536 (T 2).n).length tk) := fo.mono (by have := L2.lt; omega)
                have lt := locE_new wo [.bool (T 2).s, .slice tq (Dg.dg 65536 (T 2).n).length tk, .int .i64 (T 2).e] 34
                have bt := below_trans bo1 (below_alloc wo (.cells #[.bool (T 2).s, .slice tq (Dg.dg 65536 (T 2).n).length tk, .int .i64 (T 2).e] 34))
                have hPD : PZ < wo.heap.size := Nat.lt_of_lt_of_le lz.lt bo1.size
                have hle : w4.heap.size ≤ WZ.heap.size := A0.size
                replace L0 := L0.later bt
                replace L1 := L1.later bt
                replace L2 := L2.later bt
                replace WK := WK.later bt
                replace QK := QK.later bt
                replace lz := lz.later bt
                replace ro := ro.later (below_alloc wo (.cells #[.bool (T 2).s, .slice tq (Dg.dg 65536 (T 2).n).length tk, .int .i64 (T 2).e] 34))
                replace A0 := A0.trans (bt.mono hle)
                clear bt bo1 fo hle
                go_upto_region 17 with fail
                generalize wo.alloc (.cells #[.bool (T 2).s, .slice tq (Dg.dg 65536 (T 2).n).length tk, .int .i64 (T 2).e] 34) = WT at L0 L1 L2 WK QK lz lt ro A0 ⊢
                generalize wo.heap.size = PD at lt hPD ⊢
                go_cut [96] from 74 to 102 (fun s96 wx => s96 = .bool false ∧ Below WT.heap.size WT wx)
                case first =>
                  by_cases hi1 : i = 1
                  · have hm := him (by omega)
                    subst hm hi1
                    obtain ⟨po, pk, g0, g1, g2, gr1⟩ := (WK.later ((Below.refl _ _).drew)).get 2 (by omega)
                    replace ro := ro.later ((Below.refl _ WT).drew)
                    replace lt := lt.later ((Below.refl _ WT).drew)
                    have t0 := lt.cell 0 rfl
                    have t1 := lt.cell 1 rfl
                    have t2 := lt.cell 2 rfl
                    simp only [Nat.reduceMul, Nat.reduceAdd] at g0 g1 g2
                    go_wp2_with fail
                    go_region_held3 (fun wq => (wq.cell? ⟨PD, 0, none⟩ = some (.bool (T 2).s) ∧ wq.cell? ⟨PD, 1, none⟩ = some (.slice tq (Dg.dg 65536 (T 2).n).length tk) ∧ wq.cell? ⟨PD, 2, none⟩ = some (.int .i64 (T 2).e)) ∧ wq.cell? ⟨w4.heap.size, 6, none⟩ = some (.bool (T 2).s) ∧ wq.cell? ⟨w4.heap.size, 7, none⟩ = some (.slice po (Dg.dg 65536 (T 2).n).length pk) ∧ wq.cell? ⟨w4.heap.size, 8, none⟩ = some (.int .i64 (T 2).e)) (go_keep) (first
                      | (go_at_call 19; (with_reducible (refine (HDC.out 2 _ _ _ _ _ (by omega) ro gr1).mono ?_)); rintro z wq ⟨rfl, bq⟩; have bq2 := below_trans ((Below.refl _ WT).drew) bq; have lt2 := lt.later bq; have t3 := lt2.cell 0 rfl; have t4 := lt2.cell 1 rfl; have t5 := lt2.cell 2 rfl; have g3 := cell_later bq g0; have g4 := cell_later bq g1; have g5 := cell_later bq g2))
                    all_goals (go_wp2_with fail)
                    all_goals (go_meet; exact ⟨rfl, bq2⟩)
                  · have hif : ((i : Int) == 1) = false := by simp; omega
                    go_wp2_with fail
                    go_quiet (fail)
                    all_goals (go_wp2_with fail)
                    all_goals (go_meet; exact ⟨rfl, below_drewN (Below.refl _ _) _⟩)
                case rest =>
                  obtain ⟨rfl, bx⟩ := hcut
                  have hle := A0.size
                  replace L0 := L0.later bx
                  replace L1 := L1.later bx
                  replace L2 := L2.later bx
                  replace WK := WK.later bx
                  replace QK := QK.later bx
                  replace lz := lz.later bx
                  replace lt := lt.later bx
                  replace ro := ro.later bx
                  replace A0 := A0.trans (bx.mono hle)
                  clear hle bx
                  have t0 := lt.cell 0 rfl
                  obtain ⟨⟨w0, hw0⟩, hf0⟩ := WK.cell 6 (by omega)
                  have t1 := lt.cell 1 rfl
                  obtain ⟨⟨w1, hw1⟩, hf1⟩ := WK.cell 7 (by omega)
                  have t2 := lt.cell 2 rfl
                  obtain ⟨⟨w2, hw2⟩, hf2⟩ := WK.cell 8 (by omega)
                  go_upto_region 20 with fail
                  have bu : But w4.heap.size wc (((wc.setCell ⟨w4.heap.size, 6, none⟩ (.bool (T 2).s)).setCell ⟨w4.heap.size, 7, none⟩ (.slice tq (Dg.dg 65536 (T 2).n).length tk)).setCell ⟨w4.heap.size, 8, none⟩ (.int .i64 (T 2).e)) := ((but_set wc w4.heap.size 6 (.bool (T 2).s)).trans (but_set _ w4.heap.size 7 (.slice tq (Dg.dg 65536 (T 2).n).length tk))).trans (but_set _ w4.heap.size 8 (.int .i64 (T 2).e))
                  replace WK : WasK 48 w4.heap.size T (max (max m 2) (2 + 1)) (((wc.setCell ⟨w4.heap.size, 6, none⟩ (.bool (T 2).s)).setCell ⟨w4.heap.size, 7, none⟩ (.slice tq (Dg.dg 65536 (T 2).n).length tk)).setCell ⟨w4.heap.size, 8, none⟩ (.int .i64 (T 2).e)) := WK.put (k := 2) (by omega) (by omega) ro hfa
                  replace L0 := bu.loc L0 (by omega)
                  replace L1 := bu.loc L1 (by omega)
                  replace L2 := bu.loc L2 (by omega)
                  replace lz := bu.loc lz (by omega)
                  replace QK := QK.but bu (by omega)
                  replace A0 := bu.below A0 (Nat.le_refl _)
                  clear bu ro lt t0 t1 t2 hw0 hw1 hw2 hf0 hf1 hf2 hfa
                  generalize (((wc.setCell ⟨w4.heap.size, 6, none⟩ (.bool (T 2).s)).setCell ⟨w4.heap.size, 7, none⟩ (.slice tq (Dg.dg 65536 (T 2).n).length tk)).setCell ⟨w4.heap.size, 8, none⟩ (.int .i64 (T 2).e)) = WS at WK L0 L1 L2 lz QK A0 ⊢
                  have z1 := lz.cell 1 rfl
                  go_wp2_with fail
                  refine (spoil2_any _ _ _ QK.2.1).mono ?_
                  rintro z wsp ⟨⟨z9, rfl⟩, sp⟩
                  replace L0 := QK.off sp L0 (by omega)
                  replace L1 := QK.off sp L1 (by omega)
                  replace L2 := QK.off sp L2 (by omega)
                  replace WK := WK.spoilt sp (by omega)
                  replace A0 := A0.trans (sp.1.mono (by omega))
                  clear z1 lz QK sp
                  go_wp2_with fail
                  go_roundw
                  case rel => first | exact ⟨2 + 1, by omega, by go_num, A0, L0, L1, L2, by rw [show max m (2 + 1) = max (max m 2) (2 + 1) from by omega]; exact WK, fun h => absurd h (by omega), fun h => absurd h (by omega), fun h => absurd h (by omega)⟩ | (repeat (first | exact ⟨⟨2 + 1, by omega, by go_num, A0, L0, L1, L2, by rw [show max m (2 + 1) = max (max m 2) (2 + 1) from by omega]; exact WK, fun h => absurd h (by omega), fun h => absurd h (by omega), fun h => absurd h (by omega)⟩, rfl⟩ | apply Exists.intro))
                  case measure => simp [intOf]
            · have hk4 : k = 3 := by omega
              subst hk4
              obtain ⟨A0, -, -, -, WK, -, -, -⟩ := IN
              rw [Nat.max_eq_right hm3] at WK
              clear hk o01 o12 o0 hpw
              have S1 : Stay [.bool s, .slice ao la ca, .int .i64 e] [.bool t, .slice bo lb cb, .int .i64 f] [.bool qs, .slice no nl nc, .slice mo ml mc, .int .i64 E] [.int .i64 R, .int .i64 D, .int .i64 L, .int .i64 G, .bool gr] w wv := SH.out.later A0
              have hpw : w4.heap.size < wv.heap.size := by obtain ⟨vs, h1, -, -⟩ := WK; exact h1.lt
              have x0 := S1.1.cell 0 rfl
              have y0 := S1.2.1.cell 0 rfl
              have x1 := S1.1.cell 1 rfl
              have y1 := S1.2.1.cell 1 rfl
              have x2 := S1.1.cell 2 rfl
              have y2 := S1.2.1.cell 2 rfl
              go_wp2_with fail
              refine (HJO.out _ S1.below).mono ?_
              rintro z wj ⟨vp, vq, rfl, op, oq, bj⟩
              simp only at op oq ⊢
              have q0 := own_rw op
              have q1 := own_rw oq
              obtain ⟨po1, pk1, hvp⟩ := op.rd.shape
              subst hvp
              obtain ⟨qo1, qk1, hvq⟩ := oq.rd.shape
              subst hvq
              clear op oq x0 x1 x2 y0 y1 y2
              have lj := locE_new wj [.bool js, .slice po1 (Dg.dg 4294967296 jn).length pk1, .int .i64 je, .bool ks, .slice qo1 (Dg.dg 4294967296 kn).length qk1, .int .i64 ke] 27
              have bb := below_trans bj (below_alloc wj (.cells #[.bool js, .slice po1 (Dg.dg 4294967296 jn).length pk1, .int .i64 je, .bool ks, .slice qo1 (Dg.dg 4294967296 kn).length qk1, .int .i64 ke] 27))
              replace WK := WK.later bb
              have hle := A0.size
              replace A0 := A0.trans (bb.mono hle)
              replace q0 := q0.later (below_alloc wj (.cells #[.bool js, .slice po1 (Dg.dg 4294967296 jn).length pk1, .int .i64 je, .bool ks, .slice qo1 (Dg.dg 4294967296 kn).length qk1, .int .i64 ke] 27))
              replace q1 := q1.later (below_alloc wj (.cells #[.bool js, .slice po1 (Dg.dg 4294967296 jn).length pk1, .int .i64 je, .bool ks, .slice qo1 (Dg.dg 4294967296 kn).length qk1, .int .i64 ke] 27))
              clear bb bj hle S1
              go_upto_if 115 with fail
              generalize wj.alloc (.cells #[.bool js, .slice po1 (Dg.dg 4294967296 jn).length pk1, .int .i64 je, .bool ks, .slice qo1 (Dg.dg 4294967296 kn).length qk1, .int .i64 ke] 27) = WJ at lj WK A0 q0 q1 ⊢
              generalize wj.heap.size = PJ at lj q0 q1 ⊢
              go_cut [115] (fun s115 wx => Below w4.heap.size w4 wx ∧ WasK 48 w4.heap.size T 3 wx)
              case first =>
                by_cases hj : jc = 0
                · subst hj
                  have l1 := lj.cell 1 rfl
                  go_wp2_with fail
                  refine (spoil2_any _ _ _ q0.2.1).mono ?_
                  rintro z wsp ⟨⟨z9, rfl⟩, sp⟩
                  replace lj := q0.off sp lj (by omega)
                  have p1 := sp.2.1 _ _ q1.2.1
                  replace WK := WK.spoilt sp (by omega)
                  replace A0 := A0.trans (sp.1.mono (by omega))
                  have l4 := lj.cell 4 rfl
                  clear l1 sp
                  go_wp2_with fail
                  refine (spoil2_any _ _ _ p1).mono ?_
                  rintro z wsq ⟨⟨z8, rfl⟩, sp⟩
                  replace WK := WK.spoilt sp (by omega)
                  replace A0 := A0.trans (sp.1.mono (by omega))
                  go_wp2_with fail
                  go_meet
                  exact ⟨A0, WK⟩
                · have hjf : (jc == 0) = false := by simp [hj]
                  go_wp2_with fail
                  go_meet
                  exact ⟨A0, WK⟩
              case rest =>
                clear A0 WK lj q0 q1 hpw
                obtain ⟨A0, WK⟩ := hcut
                have S1 : Stay [.bool s, .slice ao la ca, .int .i64 e] [.bool t, .slice bo lb cb, .int .i64 f] [.bool qs, .slice no nl nc, .slice mo ml mc, .int .i64 E] [.int .i64 R, .int .i64 D, .int .i64 L, .int .i64 G, .bool gr] w wc := SH.out.later A0
                have hpw : w4.heap.size < wc.heap.size := by obtain ⟨vs, h1, -, -⟩ := WK; exact h1.lt
                have x0 := S1.2.2.1.cell 0 rfl
                have x1 := S1.2.2.1.cell 1 rfl
                have x2 := S1.2.2.1.cell 2 rfl
                have x3 := S1.2.2.1.cell 3 rfl
                have y0 := S1.2.2.2.1.cell 0 rfl
                have y1 := S1.2.2.2.1.cell 1 rfl
                have y2 := S1.2.2.2.1.cell 2 rfl
                have y3 := S1.2.2.2.1.cell 3 rfl
                have y4 := S1.2.2.2.1.cell 4 rfl
                go_wp2_with fail
                refine (HRO.out _ S1.below).mono ?_
                rintro z wp ⟨vp, rfl, op, bp⟩
                simp only at op ⊢
                have q0 := own_rw op
                obtain ⟨po1, pk1, hvp⟩ := op.rd.shape
                subst hvp
                clear op x0 x1 x2 x3 y0 y1 y2 y3 y4
                have lj := locE_new wp [.bool ps, .slice po1 (Dg.dg 4294967296 pd).length pk1, .int .i64 pp, .bool px, .bool po, .bool pu] 59
                have bb := below_trans bp (below_alloc wp (.cells #[.bool ps, .slice po1 (Dg.dg 4294967296 pd).length pk1, .int .i64 pp, .bool px, .bool po, .bool pu] 59))
                replace WK := WK.later bb
                have hle := A0.size
                replace A0 := A0.trans (bb.mono hle)
                replace q0 := q0.later (below_alloc wp (.cells #[.bool ps, .slice po1 (Dg.dg 4294967296 pd).length pk1, .int .i64 pp, .bool px, .bool po, .bool pu] 59))
                clear bb bp hle S1
                go_upto_if 132 with fail
                generalize wp.alloc (.cells #[.bool ps, .slice po1 (Dg.dg 4294967296 pd).length pk1, .int .i64 pp, .bool px, .bool po, .bool pu] 59) = WP at lj WK A0 q0 ⊢
                generalize wp.heap.size = PP at lj q0 ⊢
                have hb1 : w4.heap.size < wc.heap.size := hpw
                generalize wc.heap.size = lo1 at q0 hb1 hpw
                clear hpw
                go_cut [132] (fun s132 wx => Below w4.heap.size w4 wx ∧ WasK 48 w4.heap.size T 3 wx)
                case first =>
                  by_cases hj : pc = 0
                  · subst hj
                    have l1 := lj.cell 1 rfl
                    go_wp2_with fail
                    refine (spoil2_any _ _ _ q0.2.1).mono ?_
                    rintro z wsp ⟨⟨z9, rfl⟩, sp⟩
                    replace WK := WK.spoilt sp (by omega)
                    replace A0 := A0.trans (sp.1.mono (by omega))
                    go_wp2_with fail
                    go_meet
                    exact ⟨A0, WK⟩
                  · have hjf : (pc == 0) = false := by simp [hj]
                    go_wp2_with fail
                    go_meet
                    exact ⟨A0, WK⟩
                case rest =>
                  clear A0 WK lj q0 hb1
                  obtain ⟨A0, WK⟩ := hcut
                  have S1 : Stay [.bool s, .slice ao la ca, .int .i64 e] [.bool t, .slice bo lb cb, .int .i64 f] [.bool qs, .slice no nl nc, .slice mo ml mc, .int .i64 E] [.int .i64 R, .int .i64 D, .int .i64 L, .int .i64 G, .bool gr] w wc := SH.out.later A0
                  obtain ⟨g13, g14, g15, g16⟩ := RH.out
                  replace g13 := g13.later A0
                  replace g14 := g14.later A0
                  replace g15 := g15.later A0
                  replace g16 := g16.later A0
                  have x1 := S1.1.cell 1 rfl
                  go_wp2_with fail
                  refine (HS1.out _ _ S1.below g13).mono ?_
                  rintro z y0 ⟨rfl, bq⟩
                  clear x1
                  replace S1 := S1.later bq
                  have hle := A0.size
                  replace A0 := A0.trans (bq.mono hle)
                  clear hle
                  replace WK := WK.later bq
                  replace g14 := g14.later bq
                  replace g15 := g15.later bq
                  replace g16 := g16.later bq
                  clear bq
                  have x1 := S1.2.1.cell 1 rfl
                  go_wp2_with fail
                  refine (HS2.out _ _ S1.below g14).mono ?_
                  rintro z y1 ⟨rfl, bq⟩
                  clear x1
                  replace S1 := S1.later bq
                  have hle := A0.size
                  replace A0 := A0.trans (bq.mono hle)
                  clear hle
                  replace WK := WK.later bq
                  replace g15 := g15.later bq
                  replace g16 := g16.later bq
                  clear bq
                  have x1 := S1.2.2.1.cell 1 rfl
                  go_wp2_with fail
                  refine (HS3.out _ _ S1.below g15).mono ?_
                  rintro z y2 ⟨rfl, bq⟩
                  clear x1
                  replace S1 := S1.later bq
                  have hle := A0.size
                  replace A0 := A0.trans (bq.mono hle)
                  clear hle
                  replace WK := WK.later bq
                  replace g16 := g16.later bq
                  clear bq
                  have x1 := S1.2.2.1.cell 2 rfl
                  go_wp2_with fail
                  refine (HS4.out _ _ S1.below g16).mono ?_
                  rintro z y3 ⟨rfl, bq⟩
                  clear x1
                  replace S1 := S1.later bq
                  have hle := A0.size
                  replace A0 := A0.trans (bq.mono hle)
                  clear hle
                  replace WK := WK.later bq
                  clear bq
                  go_wp2_with fail
                  go_roundw
                  case rel => first | exact ⟨i + 1, 3, by omega, by go_num, fun _ => rfl, by omega, A0, WK⟩ | (repeat (first | exact ⟨⟨i + 1, 3, by omega, by go_num, fun _ => rfl, by omega, A0, WK⟩, rfl⟩ | apply Exists.intro))
                  case measure => simp [intOf]; omega
        · go_wp2
          go_ret
          exact ⟨rfl, SH.out.below.trans (bel.mono SH.out.below.size)⟩
end Go.Proofs.YtmjhlflemfkflaaGreatDoor

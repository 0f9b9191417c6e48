/-
  Texts laid together: Inv, BlN.
-/
import Derived.Test.YtmjhlflemfkflaaGreatDoorMem
import Derived.OrdersHeld
import Derived.Test.YtmjhlflemfkflaaGreatDoorBs
/-
  A region that draws its order, by a relation that every operation keeps, whichever comes up: no branch over orders.
-/
namespace Go.Proofs.YtmjhlflemfkflaaGreatDoor
open Go.RowKit

/-- How many have not come up yet. -/
def left (listed : Array Bool) : Nat := (listed.toList.filter (fun b => !b)).length

theorem left_set {listed : Array Bool} {i : Nat} (hi : listed[i]? = some false) : left (listed.setIfInBounds i true) + 1 = left listed := by
  unfold left
  obtain ⟨l⟩ := listed
  simp only [List.setIfInBounds_toArray, List.getElem?_toArray] at hi ⊢
  induction l generalizing i with
  | nil => simp at hi
  | cons b l ih =>
    cases i with
    | zero =>
      simp only [List.getElem?_cons_zero, Option.some.injEq] at hi
      subst hi
      simp
    | succ i =>
      simp only [List.getElem?_cons_succ] at hi
      have := ih hi
      cases b <;> simp at this ⊢ <;> omega

theorem ready_false {md : Region.Mode} {ops : Array Oper} {listed : Array Bool} {i : Nat} (h : i ∈ Region.ready md ops listed) : listed[i]? = some false := by
  have := (mem_ready.1 h).1
  simp only [Array.getD_eq_getD_getElem?] at this
  cases hc : listed[i]? with
  | none => rw [hc] at this; simp at this
  | some b => rw [hc] at this; simp at this; rw [this]

theorem left_zero {md : Region.Mode} {ops : Array Oper} {listed : Array Bool} (h : left listed = 0) : Region.ready md ops listed = [] := by
  rcases hr : Region.ready md ops listed with _ | ⟨i, r⟩
  · rfl
  · exfalso
    have h1 := left_set (ready_false (md := md) (ops := ops) (i := i) (by rw [hr]; simp))
    omega

/-- Whichever order is picked: a relation that holds at the start, is kept by whatever comes up, and gives the post where nothing is left. -/
theorem wpAny_inv {P : Program} {md : Region.Mode} {ops : Array Oper} {Q : Exit → Act → World → Prop} (I : Array Bool → Act → World → Prop)
    (hend : ∀ listed a w, I listed a w → Region.ready md ops listed = [] → Q .normal a w)
    (hstep : ∀ listed a w, I listed a w → ∀ i ∈ Region.ready md ops listed, wpOp P ops Q i (fun a' w' => I (listed.setIfInBounds i true) a' w') a w) :
    ∀ fuel listed a w, left listed ≤ fuel → I listed a w → wpAny P md ops Q fuel listed a w
  | 0, listed, a, w, hf, h => ⟨left_zero (by omega), hend listed a w h (left_zero (by omega))⟩
  | fuel + 1, listed, a, w, hf, h => ⟨fun h0 => hend listed a w h h0, fun i hi => wpOp_mono (fun a' w' h' => wpAny_inv I hend hstep fuel _ a' w' (by have := left_set (ready_false hi); omega) h') (hstep listed a w h i hi)⟩

/-- The same, up to where so many have come up: from there on it is walked as it stands. -/
theorem wpAny_until {P : Program} {md : Region.Mode} {ops : Array Oper} {Q : Exit → Act → World → Prop} (I : Array Bool → Act → World → Prop) (L : Array Bool) (n : Nat) (hn : left L = n)
    (hend : ∀ a w, I L a w → wpAny P md ops Q n L a w)
    (hstep : ∀ listed a w, I listed a w → listed ≠ L → Region.ready md ops listed ≠ [] ∧ ∀ i ∈ Region.ready md ops listed, wpOp P ops Q i (fun a' w' => I (listed.setIfInBounds i true) a' w') a w) :
    ∀ fuel listed a w, left listed = fuel → I listed a w → wpAny P md ops Q fuel listed a w
  | 0, listed, a, w, hf, h => by
    by_cases hL : listed = L
    · subst hL
      have : n = 0 := by omega
      subst this
      exact hend a w h
    · exact absurd (left_zero hf) (hstep listed a w h hL).1
  | fuel + 1, listed, a, w, hf, h => by
    by_cases hL : listed = L
    · subst hL
      have : n = fuel + 1 := by omega
      subst this
      exact hend a w h
    · obtain ⟨h1, h2⟩ := hstep listed a w h hL
      exact ⟨fun h0 => absurd h0 h1, fun i hi => wpOp_mono (fun a' w' h' => wpAny_until I L n hn hend hstep fuel _ a' w' (by have := left_set (ready_false hi); omega) h') (h2 i hi)⟩

theorem wpOp_via {P : Program} {ops : Array Oper} {Q : Exit → Act → World → Prop} {i : Nat} {J : Act → World → Prop} {a : Act} {w : World} {o : Oper} (ho : ops[i]? = some o) (hw : Region.wanted o (yielded ops a.tmps) = true)
    (h : ∀ K : Act → World → Prop, Hid (∀ a' w', J a' w' → K a' w') → o.wp P a w K Q) : wpOp P ops Q i J a w := by
  unfold wpOp
  rw [ho]
  simp only [hw, if_true]
  exact .inl (h J (fun _ _ h => h))

theorem wpAny_one {P : Program} {md : Region.Mode} {ops : Array Oper} {Q : Exit → Act → World → Prop} {fuel i : Nat} {listed : Array Bool} {a : Act} {w : World} (h : Region.ready md ops listed = [i])
    (h2 : wpOp P ops Q i (wpAny P md ops Q fuel (listed.setIfInBounds i true)) a w) : wpAny P md ops Q (fuel + 1) listed a w :=
  And.intro (fun h0 => by rw [h] at h0; exact absurd h0 (by simp)) (fun j hj => by
    rw [h, List.mem_singleton] at hj
    subst hj
    exact h2)

theorem wpAny_done {P : Program} {md : Region.Mode} {ops : Array Oper} {Q : Exit → Act → World → Prop} {listed : Array Bool} {a : Act} {w : World} (h : Region.ready md ops listed = []) (h2 : Q .normal a w) : wpAny P md ops Q 0 listed a w := ⟨h, h2⟩

/-- What a ready one waits for has come up. -/
theorem ready_dep {md : Region.Mode} {ops : Array Oper} {listed : Array Bool} {i d : Nat} {o : Oper} (ho : ops[i]? = some o) (hd : o.after.any (fun e => Region.binds md e && e.on == d) = true) (h : i ∈ Region.ready md ops listed) : listed.getD d false = true := by
  obtain ⟨_, o', ho', hall⟩ := mem_ready.1 h
  rw [ho] at ho'
  cases ho'
  rw [Array.any_eq_true] at hd
  obtain ⟨k, hk, he⟩ := hd
  simp only [Bool.and_eq_true, beq_iff_eq] at he
  have := hall _ (Array.getElem_mem hk) he.1
  rwa [he.2] at this

theorem ready_lt {md : Region.Mode} {ops : Array Oper} {listed : Array Bool} {i : Nat} (h : i ∈ Region.ready md ops listed) : i < ops.size := by
  obtain ⟨_, o', ho', _⟩ := mem_ready.1 h
  exact (Array.getElem?_eq_some_iff.1 ho').1

theorem ready_ne {md : Region.Mode} {ops : Array Oper} {listed : Array Bool} {i : Nat} (h : i ∈ Region.ready md ops listed) : Region.ready md ops listed ≠ [] := fun e => by rw [e] at h; cases h
end Go.Proofs.YtmjhlflemfkflaaGreatDoor
/-
  Blocks that a region makes, and what comes up in it.
-/
namespace Go.Proofs.YtmjhlflemfkflaaGreatDoor
open Go.RowKit

/-- A block that is new, and that nothing was stored into. -/
def NewL (W : World) (base : Nat) (v : Value) : Prop := ∃ p, v = .pointer (some ⟨p, 0, none⟩) ∧ base ≤ p ∧ Loc W p (.bool false) (.slice none 0 0) (.int .i64 0)

theorem NewL.later {W W' : World} {base : Nat} {v : Value} (h : NewL W base v) (hb : Below W.heap.size W W') : NewL W' base v := by
  obtain ⟨p, h1, h2, h3⟩ := h
  exact ⟨p, h1, h2, h3.later hb⟩

theorem newL_ne {W : World} {base : Nat} {v : Value} (h : NewL W base v) : v ≠ .pointer (some ⟨W.heap.size, 0, none⟩) := by
  obtain ⟨p, rfl, _, h3⟩ := h
  intro e
  have : p = W.heap.size := by simpa using e
  have := h3.1
  omega

theorem newL_new (W : World) (base : Nat) (ty : TypeId) (h : base ≤ W.heap.size) : NewL (W.alloc (.cells #[.bool false, .slice none 0 0, .int .i64 0] ty)) base (.pointer (some ⟨W.heap.size, 0, none⟩)) :=
  ⟨_, rfl, h, loc_new W _ _ _ ty⟩

theorem not_ready {md : Region.Mode} {ops : Array Oper} {listed : Array Bool} {j : Nat} {o : Oper} (h : Region.ready md ops listed = []) (ho : ops[j]? = some o)
    (hall : (o.after.all fun e => !Region.binds md e || listed.getD e.on false) = true) : listed.getD j true = true := by
  cases hc : listed.getD j true with
  | true => rfl
  | false =>
    exfalso
    have : j ∈ Region.ready md ops listed := by
      refine mem_ready.2 ⟨hc, o, ho, fun e he hb => ?_⟩
      have := Array.all_eq_true_iff_forall_mem.1 hall e he
      simpa [hb] using this
    rw [h] at this
    cases this
end Go.Proofs.YtmjhlflemfkflaaGreatDoor

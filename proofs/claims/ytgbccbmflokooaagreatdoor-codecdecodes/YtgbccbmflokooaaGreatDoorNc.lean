/-
  Texts laid together: Ref1, Ref2, Ref3, Ref4.
-/
import Derived.Test.YtgbccbmflokooaaGreatDoorNb
import Derived.Deep.RegionLaw
import Derived.WalkSmall
/-
  Contracts of the reference's Of: digits to the base of 65536.
-/
namespace Go.Proofs.YtgbccbmflokooaaGreatDoor
open Go.RowKit

/-- append to the call's own slice, as one step of a region that draws. -/
theorem step_append_own {P : Program} {ops : Array Oper} {o : Oper} {a : Act} {w : World} {K : Act → World → Prop} {Q : Exit → Act → World → Prop} {E : Prop}
    (hg : o.guard = none) (s x : Operand) (t : TypeId) (hop : o.op = Op.call { callee := Callee.builtin Builtin.append, args := #[s, x], argTypes := #[t, t] })
    (base : Nat) (e : TypeId) (i : TypeInfo) (z : Value) (size bytes : Nat) (ht : P.underlying t = some (.slice e)) (hi : P.info? e = some i) (hz : i.zero = some z)
    (hsize : i.size = size) (hby : i.bytes = bytes) (hzs : z.cells.size = size) (hsz : 0 < size)
    (v : Value) (n : Nat) (xs : List Value) (hs : a.eval s = v) (hown : w.ownsRow base e size v n xs)
    (ad : Addr) (m c : Nat) (news : List Value) (hx : a.eval x = .slice (some ad) m c) (hl : news.length = m * size) (hnews : ∀ j u, news[j]? = some u → w.cell? (ad.add j) = some u) (h1 : ∀ u ∈ news, u.oneCell' = true)
    (h63 : n + m ≤ maxLen) (hbytes : (n + m) * bytes ≤ 140737488355328) (hbase : base ≤ w.heap.size)
    (hK : ∀ v' w', w'.ownsRow base e size v' (n + m) (xs ++ news) → w.grownBy w' v.ownBlock → K (a.put o.dst v') w') :
    if Region.wanted o (yielded ops a.tmps) = true then Oper.wp P o a w K Q else E := by
  have hw : Region.wanted o (yielded ops a.tmps) = true := by simp [Region.wanted, hg]
  rw [if_pos hw]
  obtain ⟨v', w', hrun, r1, r2, _⟩ := run_append_own (P := P) w base t o.type e i z size bytes ht hi hz hsize hby hzs hsz v n xs hown ad m c news hl hnews h1 h63 hbytes hbase
  unfold Oper.wp
  simp [execOp, hop, resolve, invoke, builtin, hs, hx, hrun, Result.andThen]
  exact hK v' w' r1 r2

theorem Tryz.infoI64 : (Tryz.prog.info? 3).map (fun i => (i.zero, i.size, i.bytes)) = some (some (.int .i64 0), 1, 8) := by kernel_rfl

/-- The halves of each digit. -/
def halves (xs : List Nat) : List Nat := xs.flatMap (fun x => [x % 65536, x / 65536])

theorem halves_length (xs : List Nat) : (halves xs).length = 2 * xs.length := by
  induction xs with
  | nil => rfl
  | cons x xs ih => simp only [halves, List.flatMap_cons, List.length_append, List.length_cons, List.length_nil] at *; omega

theorem halves_vl (xs : List Nat) : Dg.vl 65536 (halves xs) = Dg.vl 4294967296 xs := by
  induction xs with
  | nil => rfl
  | cons x xs ih =>
    have : halves (x :: xs) = x % 65536 :: x / 65536 :: halves xs := rfl
    rw [this]
    simp only [Dg.vl, ih]
    omega

theorem halves_small (xs : List Nat) (h : Dg.Small 4294967296 xs) : Dg.Small 65536 (halves xs) := by
  induction xs with
  | nil => exact Dg.small_nil _ (by omega)
  | cons x xs ih =>
    have h1 := Dg.small_cons.1 h
    have : halves (x :: xs) = x % 65536 :: x / 65536 :: halves xs := rfl
    rw [this]
    exact Dg.small_cons.2 ⟨by omega, Dg.small_cons.2 ⟨by omega, ih h1.2⟩⟩

theorem halves_snoc (xs : List Nat) (k : Nat) (h : k < xs.length) : halves (xs.take (k + 1)) = halves (xs.take k) ++ [xs.getD k 0 % 65536, xs.getD k 0 / 65536] := by
  rw [Dg.take_succ' xs k h]
  simp [halves]

/-- The call answers a number of the reference. -/
def RNum (w : World) (n : Nat) (e : Ending) (w' : World) : Prop :=
  ∃ v, e = .returned v ∧ Rd w' .i64 v (Dg.dg 65536 n) ∧ Below w.heap.size w w'

/-- The slice lies at a block from B on, or nowhere. -/
def Far (B : Nat) (v : Value) : Prop := ∀ a n c, v = .slice (some a) n c → B ≤ a.block

theorem own_far {w : World} {base e : Nat} {k : IntKind} {v : Value} {zs : List Nat} (h : Own w base e k v zs) : Far base v := fun a n c hv => by
  rcases h.2 with ⟨e1, _⟩ | ⟨g, cap, cur, e1, hg, _⟩
  · rw [e1] at hv; cases hv
  · rw [e1] at hv
    cases hv
    exact hg

theorem far_trim {B : Nat} {oo : Option Addr} {n c : Nat} (h : Far B (.slice oo n c)) (n' c' : Nat) : Far B (.slice oo n' c') := fun a m d hv => by
  cases hv
  exact h a n c rfl

/-- What is read far off is read so behind a store before it. -/
theorem Rd.set_far {w : World} {k : IntKind} {v : Value} {zs : List Nat} {B g j : Nat} (h : Rd w k v zs) (hf : Far B v) (hg : g < B) (x : Value) : Rd (w.setCell ⟨g, j, none⟩ x) k v zs := by
  obtain ⟨ao, cap, rfl, h1, h2, h3⟩ := h
  refine ⟨ao, cap, rfl, h1, h2, fun h0 => ?_⟩
  obtain ⟨b, off, rfl, hc⟩ := h3 h0
  have := hf _ _ _ rfl
  refine ⟨b, off, rfl, fun i hi => ?_⟩
  rw [World.cell?_setCell_other (h := by simp; intro e; simp at this; omega)]
  exact hc i hi

/-- The call answers a number of the reference that lies in memory of its own. -/
def RNumF (w : World) (n : Nat) (e : Ending) (w' : World) : Prop :=
  ∃ v, e = .returned v ∧ Rd w' .i64 v (Dg.dg 65536 n) ∧ Far w.heap.size v ∧ Below w.heap.size w w'

theorem Far.mono {B B' : Nat} {v : Value} (h : Far B v) (hb : B' ≤ B) : Far B' v := fun a n c hv => Nat.le_trans hb (h a n c hv)

theorem rd_trim {w : World} {k : IntKind} {ao : Option Addr} {len cap n cap' : Nat} {zs : List Nat} (B : Nat) (hB : 2 ≤ B) (h : Rd w k (.slice ao len cap) zs) (hs : Dg.Small B zs) (ht : TrimR zs n) (hc : n ≤ cap') (hc2 : cap' ≤ maxLen) :
    Rd w k (.slice ao n cap') (Dg.dg B (Dg.vl B zs)) := by
  have hl := rd_len h
  subst hl
  obtain ⟨h1, h2, h3⟩ := rd_open h
  rw [← Dg.trim_eq B hB zs n hs ht.1 ht.2.1 ht.2.2]
  have hn := ht.1
  have hl : (zs.take n).length = n := by simp; omega
  refine ⟨ao, cap', by rw [hl], by rw [hl]; exact hc, hc2, fun hp => ?_⟩
  rw [hl] at hp
  obtain ⟨b, off, ha, hcell⟩ := h3 (by omega)
  refine ⟨b, off, ha, fun i hi => ?_⟩
  rw [hl] at hi
  rw [hcell i (by omega), Dg.getD_take _ _ _ hi]

theorem of_append {w wr w3 : World} {x y : Nat} {es : List Nat} {lv v' : Value} (bel : Below w.heap.size w wr) (ownL : Own wr w.heap.size 3 .i64 lv es)
    (hown' : w3.ownsRow w.heap.size 3 1 v' (es.length + 2) ((es.map (fun n : Nat => Value.int .i64 (n : Int))) ++ [.int .i64 (x : Int), .int .i64 (y : Int)]))
    (hgrow : (wr.alloc (.cells #[.int .i64 (x : Int), .int .i64 (y : Int)] 3)).drew.grownBy w3 lv.ownBlock) :
    Own w3 w.heap.size 3 .i64 v' (es ++ [x, y]) ∧ Below w.heap.size w w3 := by
  have b1 : Below wr.heap.size wr (wr.alloc (.cells #[.int .i64 (x : Int), .int .i64 (y : Int)] 3)).drew := ((Below.refl _ _).alloc (Nat.le_refl _) _).drew
  refine ⟨?_, ?_⟩
  · unfold Own
    simpa using hown'
  · refine (below_trans bel b1).grown hgrow (Nat.le_trans bel.size b1.size) (fun k hk => ?_)
    exact (World.ownsRow.lt ownL k hk).1

set_option maxRecDepth 100000 in
set_option maxHeartbeats 1600000 in
theorem of_any (va : Value) (xs : List Nat) (w : World) (ha : Rd w .u32 va xs) (sa : Dg.Small 4294967296 xs) (hla : xs.length ≤ 1000000) :
    Calls Tryz.prog 43 #[va] w (RNum w (Dg.vl 4294967296 xs)) := by
  obtain ⟨ao, ca, rfl, -, -, hca⟩ := ha
  obtain ⟨i0, hi, hz0, hz1, hz2⟩ := info_parts Tryz.infoI64
  go_enter Tryz.func43, Tryz.ntmps43
  go_wp2
  go_loopw [3, 4] (fun ov iv wr => ∃ k : Nat, k ≤ xs.length ∧ iv = .int .i64 k ∧ Own wr w.heap.size 3 .i64 ov (halves (xs.take k)) ∧ Below w.heap.size w wr) (fun _ iv _ => xs.length - (intOf iv).toNat)
  case atStart => exact ⟨0, Nat.zero_le _, rfl, own_nil _ _ _ _, Below.refl _ _⟩
  case round =>
    obtain ⟨k, hk, rfl, own, bel⟩ := hrel
    by_cases hlt : k < xs.length
    · obtain ⟨b, off, rfl, hcell⟩ := hca (by omega)
      have hx := cell_later bel (hcell k hlt)
      have hxl := sa k
      have hsn := halves_snoc xs k hlt
      obtain ⟨x, ex⟩ : ∃ x, xs.getD k 0 = x := ⟨_, rfl⟩
      rw [ex] at hx hxl hsn
      have HS : Hid (halves (xs.take (k + 1)) = halves (xs.take k) ++ [x % 65536, x / 65536]) := hsn
      have hhl : (halves (xs.take k)).length ≤ 2000000 := by rw [halves_length]; simp; omega
      have hbs := bel.size
      obtain ⟨es, ees⟩ : ∃ es, halves (xs.take k) = es := ⟨_, rfl⟩
      rw [ees] at own hhl
      have HE : Hid (halves (xs.take k) = es) := ees
      clear ex hcell hca hsn ees
      obtain ⟨p, hp⟩ : ∃ p, x % 65536 = p := ⟨_, rfl⟩
      obtain ⟨q, hq⟩ : ∃ q, x / 65536 = q := ⟨_, rfl⟩
      have e1 : IntKind.i64.wrap (x : Int) = (x : Int) := IntWalk.i64_in _ ⟨by omega, by omega⟩
      have e2 : (x : Int).tmod 65536 = (p : Int) := by rw [Int.tmod_eq_emod_of_nonneg (by omega)]; omega
      have e3 : IntKind.i64.wrap ((x : Int).tdiv 65536) = (q : Int) := by rw [Int.tdiv_eq_ediv_of_nonneg (by omega), IntWalk.i64_in _ ⟨by omega, by omega⟩]; omega
      have e4 : IntKind.i64.wrap ((x : Int) / 65536) = (q : Int) := by rw [IntWalk.i64_in _ ⟨by omega, by omega⟩]; omega
      rw [hp, hq] at HS
      clear hp hq
      go_wp2
      go_region_law (refine step_append_own rfl (.tmp 11) (.tmp 24) 30 rfl w.heap.size 3 i0 (.int .i64 0) 1 8 Tryz.underlying30 hi hz0 hz1 hz2 rfl (by decide) _ es.length (es.map (fun n : Nat => Value.int .i64 (n : Int))) rfl (World.ownsRow.drew (World.ownsRow.alloc own _)) ⟨wr.heap.size, 0, none⟩ 2 2 [.int .i64 (p : Int), .int .i64 (q : Int)] rfl rfl (cell_two_new _ _ _ _) (by intro u hu; simp at hu; rcases hu with rfl | rfl <;> rfl) (by unfold maxLen; omega) (by omega) (by simp; omega) ?_; intro v' w3 hown' hgrow)
      all_goals
        have R := of_append bel own hown' hgrow
        clear hown' hgrow own e1 e2 e3 e4
        go_wp2
        go_roundw
        case rel =>
          have HS2 := HS.out
          rw [HE.out] at HS2
          exact ⟨k + 1, by omega, by go_num, by rw [HS2]; exact R.1, R.2⟩
        case measure => simp [intOf]; omega
    · have hke : k = xs.length := by omega
      subst hke
      have hshape := own.rd.shape
      rw [List.take_of_length_le (Nat.le_refl _)] at own
      obtain ⟨oo, oc, rfl⟩ := own.rd.shape
      go_wp2_with fail
      refine (reftrim_any _ _ _ _ _ own.rd).mono ?_
      rintro e w' ⟨n, rfl, hn, rfl⟩
      have hnl := hn.1
      rw [halves_length] at hnl
      have hr := rd_trim (cap' := n) 65536 (by omega) own.rd (halves_small xs sa) hn (Nat.le_refl _) (by unfold maxLen; omega)
      rw [halves_vl] at hr
      clear hshape hn
      go_wp2
      go_ret
      exact ⟨_, rfl, hr, bel⟩
end Go.Proofs.YtgbccbmflokooaaGreatDoor
/-
  Contracts of the reference's To and SameNat.
-/
namespace Go.Proofs.YtgbccbmflokooaaGreatDoor
open Go.RowKit

/-- Two digits made one. -/
def pairAt (ds : List Nat) (j : Nat) : Nat := ds.getD (2 * j) 0 + 65536 * ds.getD (2 * j + 1) 0
def pairsTo (ds : List Nat) (k : Nat) : List Nat := (List.range k).map (pairAt ds)

theorem pairsTo_succ (ds : List Nat) (k : Nat) : pairsTo ds (k + 1) = pairsTo ds k ++ [pairAt ds k] := by simp [pairsTo, List.range_succ]
theorem pairsTo_length (ds : List Nat) (k : Nat) : (pairsTo ds k).length = k := by simp [pairsTo]

theorem vl_take_any (B : Nat) (l : List Nat) (k : Nat) : Dg.vl B (l.take (k + 1)) = Dg.vl B (l.take k) + B ^ k * l.getD k 0 := by
  by_cases h : k < l.length
  · exact Dg.vl_take_succ _ _ _ h
  · rw [List.take_of_length_le (by omega), List.take_of_length_le (by omega), Dg.getD_of_le _ _ (by omega)]; omega

theorem pow_two (k : Nat) : (65536 : Nat) ^ (2 * k) = 4294967296 ^ k := by rw [Nat.pow_mul]

theorem pairsTo_vl (ds : List Nat) (k : Nat) : Dg.vl 4294967296 (pairsTo ds k) = Dg.vl 65536 (ds.take (2 * k)) := by
  induction k with
  | zero => rfl
  | succ k ih =>
    rw [pairsTo_succ, Dg.vl_append, ih, pairsTo_length, show 2 * (k + 1) = 2 * k + 1 + 1 from by omega, vl_take_any, vl_take_any]
    simp only [Dg.vl, pairAt, Nat.pow_succ, pow_two, Nat.mul_zero, Nat.add_zero]
    rw [Nat.mul_add, Nat.mul_assoc]
    omega

theorem pairAt_lt (ds : List Nat) (h : Dg.Small 65536 ds) (j : Nat) : pairAt ds j < 4294967296 := by
  have h1 := h (2 * j)
  have h2 := h (2 * j + 1)
  unfold pairAt
  omega

theorem pairsTo_getD (ds : List Nat) (k i : Nat) (h : i < k) : (pairsTo ds k).getD i 0 = pairAt ds i := by
  simp [pairsTo, List.getD_eq_getElem?_getD, h]

theorem pairsTo_eq (ds : List Nat) (hs : Dg.Small 65536 ds) (hn : Dg.Norm ds) (k : Nat) (h1 : ds.length ≤ 2 * k) (h2 : 2 * k ≤ ds.length + 1) : pairsTo ds k = Dg.dg 4294967296 (Dg.vl 65536 ds) := by
  refine Dg.eq_dg 4294967296 (by omega) _ _ (fun i => ?_) (fun hne => ?_) ?_
  · by_cases hi : i < k
    · rw [pairsTo_getD ds k i hi]; exact pairAt_lt ds hs i
    · rw [Dg.getD_of_le _ _ (by rw [pairsTo_length]; omega)]; omega
  · have hk : 0 < k := by
      rcases Nat.eq_zero_or_pos k with e | e
      · subst e; exact absurd rfl hne
      · exact e
    rw [pairsTo_length, pairsTo_getD ds k _ (by omega)]
    have hdn : ds ≠ [] := by intro e; subst e; simp at h2; omega
    have := hn hdn
    unfold pairAt
    by_cases he : ds.length = 2 * k
    · rw [he, show 2 * k - 1 = 2 * (k - 1) + 1 from by omega] at this; omega
    · rw [show ds.length - 1 = 2 * (k - 1) from by omega] at this; omega
  · rw [pairsTo_vl, List.take_of_length_le h1]

theorem own_append1 {w wr w3 : World} {e x : Nat} {k : IntKind} {es : List Nat} {lv v' : Value} (bel : Below w.heap.size w wr) (ownL : Own wr w.heap.size e k lv es)
    (hown' : w3.ownsRow w.heap.size e 1 v' (es.length + 1) ((es.map (fun n : Nat => Value.int k (n : Int))) ++ [.int k (x : Int)]))
    (hgrow : (wr.alloc (.cells #[.int k (x : Int)] e)).grownBy w3 lv.ownBlock) :
    Own w3 w.heap.size e k v' (es ++ [x]) ∧ Below w.heap.size w w3 := by
  have b1 : Below wr.heap.size wr (wr.alloc (.cells #[.int k (x : Int)] e)) := (Below.refl _ _).alloc (Nat.le_refl _) _
  refine ⟨?_, ?_⟩
  · unfold Own
    simpa using hown'
  · refine (below_trans bel b1).grown hgrow (Nat.le_trans bel.size b1.size) (fun k hk => ?_)
    exact (World.ownsRow.lt ownL k hk).1

set_option maxRecDepth 100000 in
set_option maxHeartbeats 1600000 in
theorem to_any (va : Value) (ds : List Nat) (w : World) (ha : Rd w .i64 va ds) (sa : Dg.Small 65536 ds) (na : Dg.Norm ds) (hla : ds.length ≤ 3000000) :
    Calls Tryz.prog 34 #[va] w (Num w (Dg.vl 65536 ds)) := by
  obtain ⟨ao, ca, rfl, -, -, hca⟩ := ha
  obtain ⟨i0, hi, hz0, hz1, hz2⟩ := info_parts Tryz.infoU32
  go_enter Tryz.func34, Tryz.ntmps34
  go_wp2
  go_loopw [3, 4] (fun ov iv wr => ∃ k : Nat, 2 * k ≤ ds.length + 1 ∧ iv = .int .i64 ((2 * k : Nat) : Int) ∧ Own wr w.heap.size 84 .u32 ov (pairsTo ds k) ∧ Below w.heap.size w wr) (fun _ iv _ => ds.length + 1 - (intOf iv).toNat)
  case atStart => exact ⟨0, by omega, rfl, own_nil _ _ _ _, Below.refl _ _⟩
  case round =>
    obtain ⟨k, hk, rfl, own, bel⟩ := hrel
    obtain ⟨i, hi2⟩ : ∃ i, 2 * k = i := ⟨_, rfl⟩
    rw [hi2]
    by_cases hlt : i < ds.length
    · obtain ⟨b, off, rfl, hcell⟩ := hca (by omega)
      have hx := cell_later bel (hcell i hlt)
      have hx2 := fun h : i + 1 < ds.length => cell_later bel (hcell (i + 1) h)
      have hxl := sa i
      have hyl := sa (i + 1)
      have hpl := pairsTo_length ds k
      have hsu := pairsTo_succ ds k
      have hpa : pairAt ds k = ds.getD i 0 + 65536 * ds.getD (i + 1) 0 := by unfold pairAt; rw [hi2]
      have hno : ¬ i + 1 < ds.length → ds.getD (i + 1) 0 = 0 := fun h => Dg.getD_of_le _ _ (by omega)
      have hbs := bel.size
      obtain ⟨x, ex⟩ : ∃ x, ds.getD i 0 = x := ⟨_, rfl⟩
      obtain ⟨y, ey⟩ : ∃ y, ds.getD (i + 1) 0 = y := ⟨_, rfl⟩
      obtain ⟨es, ees⟩ : ∃ es, pairsTo ds k = es := ⟨_, rfl⟩
      rw [ex] at hx hxl hpa
      rw [ey] at hx2 hyl hpa hno
      rw [hpa, ees] at hsu
      rw [ees] at own hpl
      have HS : Hid (pairsTo ds (k + 1) = es ++ [x + 65536 * y]) := hsu
      have HI : Hid (2 * k = i) := hi2
      have hil : es.length ≤ 3000000 := by omega
      clear ex ey ees hcell hca hsu hpa hpl hi2
      by_cases hlt2 : i + 1 < ds.length
      · have hx3 := hx2 hlt2
        clear hx2 hno
        go_wp2_with (at_builtin; refine wpList_append_own _ rfl _ _ 23 rfl w.heap.size 84 i0 (.int .u32 0) 1 4 Tryz.underlying23 hi hz0 hz1 hz2 rfl (by decide) _ _ _ rfl (World.ownsRow.alloc own _) ⟨wr.heap.size, 0, none⟩ 1 1 [.int .u32 ((x : Int) + 65536 * (y : Int))] rfl rfl ?c1 ?c2 ?c3 ?c4 ?c5 ?_)
        case c1 => exact cell_one_new _ _ _
        case c2 => intro u hu; simp at hu; subst hu; rfl
        case c3 => unfold maxLen; omega
        case c4 => omega
        case c5 => simp; omega
        intro v' w3 hown' hgrow _
        have e0 : ((x : Int) + 65536 * (y : Int)) = ((x + 65536 * y : Nat) : Int) := by omega
        rw [e0] at hown' hgrow
        have R := own_append1 bel own hown' hgrow
        clear hown' hgrow own e0
        go_wp2
        go_roundw
        case rel => exact ⟨k + 1, by have := HI.out; omega, by have := HI.out; go_num, by rw [HS.out]; exact R.1, R.2⟩
        case measure => simp [intOf]; omega
      · have hy0 := hno hlt2
        subst hy0
        clear hx2 hno
        go_wp2_with (at_builtin; refine wpList_append_own _ rfl _ _ 23 rfl w.heap.size 84 i0 (.int .u32 0) 1 4 Tryz.underlying23 hi hz0 hz1 hz2 rfl (by decide) _ _ _ rfl (World.ownsRow.alloc own _) ⟨wr.heap.size, 0, none⟩ 1 1 [.int .u32 (x : Int)] rfl rfl ?d1 ?d2 ?d3 ?d4 ?d5 ?_)
        case d1 => exact cell_one_new _ _ _
        case d2 => intro u hu; simp at hu; subst hu; rfl
        case d3 => unfold maxLen; omega
        case d4 => omega
        case d5 => simp; omega
        intro v' w3 hown' hgrow _
        have R := own_append1 bel own hown' hgrow
        clear hown' hgrow own
        go_wp2
        go_roundw
        case rel => exact ⟨k + 1, by have := HI.out; omega, by have := HI.out; go_num, by rw [HS.out]; exact R.1, R.2⟩
        case measure => simp [intOf]; omega
    · have he := pairsTo_eq ds sa na k (by omega) hk
      rw [he] at own
      clear he
      go_wp2
      go_ret
      exact ⟨_, rfl, own, bel⟩

set_option maxRecDepth 100000 in
set_option maxHeartbeats 1600000 in
theorem same_any (va vb : Value) (xs ys : List Nat) (w : World) (ha : Rd w .u32 va xs) (hb : Rd w .u32 vb ys) :
    Calls Tryz.prog 36 #[va, vb] w fun e w' => e = .returned (.bool (decide (xs = ys))) ∧ Below w.heap.size w w' := by
  obtain ⟨ao, ca, rfl, hla, hma, hca⟩ := ha
  obtain ⟨bo, cb, rfl, hlb, hmb, hcb⟩ := hb
  unfold maxLen at hma hmb
  obtain ⟨r, hr⟩ : ∃ r, decide (xs = ys) = r := ⟨_, rfl⟩
  rw [hr]
  by_cases hle : xs.length = ys.length
  · have HR : Hid (decide (xs = ys) = r) := hr
    have HL : Hid (xs.length = ys.length) := hle
    rw [hle] at hla hca ⊢
    clear hr hle
    go_enter Tryz.func36, Tryz.ntmps36
    go_wp2
    go_loopw [5] (fun iv wr => ∃ k : Nat, k ≤ ys.length ∧ iv = .int .i64 k ∧ Hid (∀ j, j < k → xs.getD j 0 = ys.getD j 0) ∧ Below w.heap.size w wr) (fun iv _ => ys.length - (intOf iv).toNat)
    case atStart => exact ⟨0, Nat.zero_le _, rfl, fun j hj => by omega, Below.refl _ _⟩
    case round =>
      obtain ⟨k, hk, rfl, hall, bel⟩ := hrel
      by_cases hlt : k < ys.length
      · obtain ⟨b, off, rfl, hcell⟩ := hca (by omega)
        obtain ⟨b2, off2, rfl, hcell2⟩ := hcb (by omega)
        have hx := cell_later bel (hcell k hlt)
        have hy := cell_later bel (hcell2 k hlt)
        have hst : xs.getD k 0 ≠ ys.getD k 0 → decide (xs = ys) = false := fun h => by
          rw [decide_eq_false]; intro e; rw [e] at h; exact h rfl
        rw [HR.out] at hst
        obtain ⟨x, ex⟩ : ∃ x, xs.getD k 0 = x := ⟨_, rfl⟩
        obtain ⟨y, ey⟩ : ∃ y, ys.getD k 0 = y := ⟨_, rfl⟩
        have HX : Hid (xs.getD k 0 = x) := ex
        have HY : Hid (ys.getD k 0 = y) := ey
        rw [ex] at hx hst
        rw [ey] at hy hst
        clear ex ey hcell hcell2 hca hcb
        by_cases hxy : x = y
        · subst hxy
          clear hst
          go_wp2
          go_quiet (fail)
          go_wp2
          go_roundw
          case rel => exact ⟨k + 1, by omega, by go_num, fun j hj => by
            by_cases e : j = k
            · rw [e]; exact HX.out.trans HY.out.symm
            · exact hall j (by omega), below_drewN bel _⟩
          case measure => simp [intOf]; omega
        · have hrf := hst hxy
          subst hrf
          have hne : ((x : Int) != (y : Int)) = true := by rw [bne_iff_ne]; omega
          go_wp2
          go_quiet (fail)
          go_wp2
          go_ret
          exact ⟨rfl, below_drewN bel _⟩
      · have he : xs = ys := Dg.eq_of_all xs ys HL.out (fun j => by
          by_cases hj : j < k
          · exact hall j hj
          · rw [Dg.getD_of_le xs j (by rw [HL.out]; omega), Dg.getD_of_le ys j (by omega)])
        have hrt : r = true := by rw [← HR.out]; exact decide_eq_true he
        subst hrt
        clear he
        go_wp2
        go_ret
        exact ⟨rfl, bel⟩
  · have hrf : r = false := by rw [← hr]; apply decide_eq_false; intro e; rw [e] at hle; exact hle rfl
    subst hrf
    clear hr
    have hne : ((xs.length : Int) != (ys.length : Int)) = true := by rw [bne_iff_ne]; omega
    go_enter Tryz.func36, Tryz.ntmps36
    go_wp2
    go_ret
    exact ⟨rfl, Below.refl _ _⟩
end Go.Proofs.YtgbccbmflokooaaGreatDoor
/-
  Contracts of the reference's Cmp and TwoNats, and of the laws' long and natIs.
-/
namespace Go.Proofs.YtgbccbmflokooaaGreatDoor
open Go.RowKit

theorem to_num (vw : Value) (n : Nat) (w : World) (hw : Rd w .i64 vw (Dg.dg 65536 n)) (hn : (Dg.dg 65536 n).length ≤ 3000000) :
    Calls Tryz.prog 34 #[vw] w (Num w n) := by
  have := to_any vw (Dg.dg 65536 n) w hw (Dg.small_dg _ _ (by omega)) (Dg.norm_dg _ _ (by omega)) hn
  rwa [Dg.vl_dg _ _ (by omega)] at this

set_option maxRecDepth 100000 in
set_option maxHeartbeats 1600000 in
theorem refcmp_any (va vb : Value) (xs ys : List Nat) (w : World) (ha : Rd w .i64 va xs) (hb : Rd w .i64 vb ys) (sa : Dg.Small 65536 xs) (sb : Dg.Small 65536 ys) (na : Dg.Norm xs) (nb : Dg.Norm ys) :
    Calls Tryz.prog 33 #[va, vb] w fun e w' => e = .returned (.int .i64 (cmpI (Dg.vl 65536 xs) (Dg.vl 65536 ys))) ∧ Below w.heap.size w w' := by
  obtain ⟨ao, ca, rfl, hla, hma, hca⟩ := ha
  obtain ⟨bo, cb, rfl, hlb, hmb, hcb⟩ := hb
  unfold maxLen at hma hmb
  by_cases h1 : xs.length < ys.length
  · have hv := Dg.vl_lt_of_len 65536 (by omega) xs ys sa nb h1
    rw [cmpI_lt (by omega)]
    have hne : ((xs.length : Int) != (ys.length : Int)) = true := by rw [bne_iff_ne]; omega
    go_enter Tryz.func33, Tryz.ntmps33
    go_wp2
    go_ret
    exact ⟨rfl, Below.refl _ _⟩
  · by_cases h2 : ys.length < xs.length
    · have hv := Dg.vl_lt_of_len 65536 (by omega) ys xs sb na h2
      rw [cmpI_gt (by omega)]
      have hne : ((xs.length : Int) != (ys.length : Int)) = true := by rw [bne_iff_ne]; omega
      go_enter Tryz.func33, Tryz.ntmps33
      go_wp2
      go_ret
      exact ⟨rfl, Below.refl _ _⟩
    · have hle : xs.length = ys.length := by omega
      obtain ⟨r, hr⟩ : ∃ r, cmpI (Dg.vl 65536 xs) (Dg.vl 65536 ys) = r := ⟨_, rfl⟩
      rw [hr]
      have HR : Hid (cmpI (Dg.vl 65536 xs) (Dg.vl 65536 ys) = r) := hr
      have HL : Hid (xs.length = ys.length) := hle
      rw [hle] at hla hca ⊢
      clear hr hle h1 h2
      go_enter Tryz.func33, Tryz.ntmps33
      go_wp2
      go_loopw [5] (fun iv wr => ∃ k : Nat, k ≤ ys.length ∧ iv = .int .i64 ((k : Int) - 1) ∧ Hid (∀ j, k ≤ j → xs.getD j 0 = ys.getD j 0) ∧ Below w.heap.size w wr) (fun iv _ => (intOf iv + 1).toNat)
      case atStart => exact ⟨ys.length, Nat.le_refl _, rfl, fun j hj => by rw [Dg.getD_of_le xs j (by rw [HL.out]; exact hj), Dg.getD_of_le ys j hj], Below.refl _ _⟩
      case round =>
        obtain ⟨k, hk, rfl, hall, bel⟩ := hrel
        by_cases hk0 : k = 0
        · subst hk0
          have he := Dg.eq_of_all xs ys HL.out (fun j => hall j (by omega))
          have hr0 : r = 0 := by rw [← HR.out, he, cmpI_eq]
          subst hr0
          clear he
          go_wp2
          go_ret
          exact ⟨rfl, bel⟩
        · obtain ⟨m, rfl⟩ : ∃ m, k = m + 1 := ⟨k - 1, by omega⟩
          obtain ⟨b, off, rfl, hcell⟩ := hca (by omega)
          obtain ⟨b2, off2, rfl, hcell2⟩ := hcb (by omega)
          have hx := cell_later bel (hcell m (by omega))
          have hy := cell_later bel (hcell2 m (by omega))
          have hst : xs.getD m 0 < ys.getD m 0 → cmpI (Dg.vl 65536 xs) (Dg.vl 65536 ys) = -1 := fun h =>
            cmpI_lt (by have := Dg.vl_lt_of_digit 65536 xs ys m HL.out (by rw [HL.out]; omega) hall h sa; omega)
          have hst2 : ys.getD m 0 < xs.getD m 0 → cmpI (Dg.vl 65536 xs) (Dg.vl 65536 ys) = 1 := fun h =>
            cmpI_gt (by have := Dg.vl_lt_of_digit 65536 ys xs m HL.out.symm (by omega) (fun j hj => (hall j hj).symm) h sb; omega)
          rw [HR.out] at hst hst2
          obtain ⟨x, ex⟩ : ∃ x, xs.getD m 0 = x := ⟨_, rfl⟩
          obtain ⟨y, ey⟩ : ∃ y, ys.getD m 0 = y := ⟨_, rfl⟩
          have HX : Hid (xs.getD m 0 = x) := ex
          have HY : Hid (ys.getD m 0 = y) := ey
          rw [ex] at hx hst hst2
          rw [ey] at hy hst hst2
          clear ex ey hcell hcell2 hca hcb
          have hmI : ((m + 1 : Nat) : Int) - 1 = (m : Int) := by omega
          rw [hmI]
          clear hmI
          by_cases hxy : x < y
          · have hr1 := hst hxy
            subst hr1
            clear hst hst2
            go_wp2
            go_quiet (fail)
            go_wp2
            go_ret
            exact ⟨rfl, below_drewN bel _⟩
          · by_cases hyx : y < x
            · have hr1 := hst2 hyx
              subst hr1
              clear hst hst2
              go_wp2
              go_quiet (fail)
              go_wp2
              go_quiet (fail)
              go_wp2
              go_ret
              exact ⟨rfl, below_drewN (below_drewN bel _) _⟩
            · have hxe : x = y := by omega
              subst hxe
              clear hst hst2
              go_wp2
              go_quiet (fail)
              go_wp2
              go_quiet (fail)
              go_wp2
              go_roundw
              case rel => exact ⟨m, by omega, by go_num, fun j hj => by
                by_cases e : j = m
                · rw [e]; exact HX.out.trans HY.out.symm
                · exact hall j (by omega), below_drewN bel _⟩
              case measure => simp [intOf]
end Go.Proofs.YtgbccbmflokooaaGreatDoor
/-
  Contracts of the reference's Plus and Less.
-/
namespace Go.Proofs.YtgbccbmflokooaaGreatDoor
open Go.RowKit

theorem vl_ge_pow (B : Nat) (l : List Nat) (hn : Dg.Norm l) (k : Nat) (h : k < l.length) (hB : 0 < B) : B ^ k ≤ Dg.vl B l := by
  have h1 := Dg.vl_ge B l (by intro e; subst e; simp at h) hn
  exact Nat.le_trans (Nat.pow_le_pow_right hB (by omega)) h1

/-- What Plus keeps. -/
def RAdd (xs ys ps : List Nat) (k c : Nat) : Prop :=
  ps.length = k ∧ Dg.Small 65536 ps ∧ c ≤ 1 ∧ Dg.vl 65536 ps + 65536 ^ k * c = Dg.vl 65536 (xs.take k) + Dg.vl 65536 (ys.take k) ∧ (0 < k → 65536 ^ (k - 1) ≤ Dg.vl 65536 xs + Dg.vl 65536 ys)

theorem rAdd_step {xs ys ps : List Nat} {k c : Nat} (h : RAdd xs ys ps k c) (na : Dg.Norm xs) (nb : Dg.Norm ys) (sa : Dg.Small 65536 xs) (sb : Dg.Small 65536 ys) (hk : k < xs.length ∨ k < ys.length ∨ 0 < c) (t : Nat) (ht : t = c + xs.getD k 0 + ys.getD k 0) :
    RAdd xs ys (ps ++ [t % 65536]) (k + 1) (t / 65536) := by
  obtain ⟨h1, h2, h3, h4, h5⟩ := h
  have hx := sa k
  have hy := sb k
  refine ⟨by simp [h1], small_snoc h2 (Nat.mod_lt _ (by omega)), by omega, ?_, fun _ => ?_⟩
  · rw [Dg.vl_append, vl_take_any, vl_take_any, h1]
    simp only [Dg.vl, Nat.mul_zero, Nat.add_zero]
    have e : 65536 ^ (k + 1) * (t / 65536) = 65536 ^ k * (65536 * (t / 65536)) := by rw [Nat.pow_succ, Nat.mul_assoc]
    have e2 : 65536 ^ k * t = 65536 ^ k * (t % 65536) + 65536 ^ k * (65536 * (t / 65536)) := by rw [← Nat.mul_add, Nat.mod_add_div]
    have e3 : 65536 ^ k * t = 65536 ^ k * c + 65536 ^ k * xs.getD k 0 + 65536 ^ k * ys.getD k 0 := by rw [ht, Nat.mul_add, Nat.mul_add]
    rw [e]
    omega
  · rw [Nat.add_sub_cancel]
    by_cases a : k < xs.length
    · have := vl_ge_pow 65536 xs na k a (by omega); omega
    · by_cases b : k < ys.length
      · have := vl_ge_pow 65536 ys nb k b (by omega); omega
      · rw [List.take_of_length_le (by omega), List.take_of_length_le (by omega)] at h4
        have : 65536 ^ k ≤ 65536 ^ k * c := Nat.le_mul_of_pos_right _ (by omega)
        omega

theorem rAdd_end {xs ys ps : List Nat} {k c : Nat} (h : RAdd xs ys ps k c) (hk : ¬ (k < xs.length ∨ k < ys.length ∨ 0 < c)) : ps = Dg.dg 65536 (Dg.vl 65536 xs + Dg.vl 65536 ys) := by
  obtain ⟨h1, h2, h3, h4, h5⟩ := h
  have hc : c = 0 := by omega
  subst hc
  rw [List.take_of_length_le (by omega), List.take_of_length_le (by omega)] at h4
  refine Dg.eq_dg 65536 (by omega) _ _ h2 (Dg.norm_of_ge 65536 ps h2 (fun hne => ?_)) (by omega)
  have := h5 (by rw [← h1]; exact List.length_pos_iff.2 hne)
  rw [h1]
  omega

/-- What Less keeps. -/
def RSub (xs ys ps : List Nat) (k c : Nat) : Prop :=
  ps.length = k ∧ Dg.Small 65536 ps ∧ c ≤ 1 ∧ Dg.vl 65536 (xs.take k) + 65536 ^ k * c = Dg.vl 65536 ps + Dg.vl 65536 (ys.take k)

theorem rSub_step {xs ys ps : List Nat} {k c d c' : Nat} (h : RSub xs ys ps k c) (hd : d < 65536) (hc : c' ≤ 1) (e : xs.getD k 0 + 65536 * c' = d + ys.getD k 0 + c) : RSub xs ys (ps ++ [d]) (k + 1) c' := by
  obtain ⟨h1, h2, h3, h4⟩ := h
  refine ⟨by simp [h1], small_snoc h2 hd, hc, ?_⟩
  rw [Dg.vl_append, vl_take_any, vl_take_any, h1]
  simp only [Dg.vl, Nat.mul_zero, Nat.add_zero]
  have e2 : 65536 ^ k * (xs.getD k 0 + 65536 * c') = 65536 ^ k * (d + ys.getD k 0 + c) := by rw [e]
  have e3 : 65536 ^ (k + 1) * c' = 65536 ^ k * (65536 * c') := by rw [Nat.pow_succ, Nat.mul_assoc]
  rw [Nat.mul_add, Nat.mul_add, Nat.mul_add] at e2
  rw [e3]
  omega

theorem rSub_end {xs ys ps : List Nat} {c : Nat} (h : RSub xs ys ps xs.length c) (hl : ys.length ≤ xs.length) (hv : Dg.vl 65536 ys ≤ Dg.vl 65536 xs) : Dg.vl 65536 ps = Dg.vl 65536 xs - Dg.vl 65536 ys := by
  obtain ⟨h1, h2, h3, h4⟩ := h
  rw [List.take_of_length_le (Nat.le_refl xs.length), List.take_of_length_le hl] at h4
  have hlt := Dg.vl_lt 65536 ps h2
  rw [h1] at hlt
  have hc : c = 0 := by
    rcases Nat.eq_zero_or_pos c with e | e
    · exact e
    · have : c = 1 := by omega
      subst this
      omega
  subst hc
  omega

set_option maxRecDepth 100000 in
set_option maxHeartbeats 3200000 in
theorem refplus_any (va vb : Value) (xs ys : List Nat) (w : World) (ha : Rd w .i64 va xs) (hb : Rd w .i64 vb ys) (sa : Dg.Small 65536 xs) (sb : Dg.Small 65536 ys) (na : Dg.Norm xs) (nb : Dg.Norm ys) (hla : xs.length ≤ 2000000) (hlb : ys.length ≤ 2000000) :
    Calls Tryz.prog 32 #[va, vb] w (RNum w (Dg.vl 65536 xs + Dg.vl 65536 ys)) := by
  obtain ⟨ao, ca, rfl, -, -, hca⟩ := ha
  obtain ⟨bo, cb, rfl, -, -, hcb⟩ := hb
  obtain ⟨i0, hi, hz0, hz1, hz2⟩ := info_parts Tryz.infoI64
  go_enter Tryz.func32, Tryz.ntmps32
  go_wp2
  go_loopw [5, 6, 7] (fun ov cv iv wr => ∃ (k c : Nat) (ps : List Nat), k ≤ 2000001 ∧ (2000000 < k → c = 0) ∧ iv = .int .i64 k ∧ cv = .int .i64 c ∧ Own wr w.heap.size 3 .i64 ov ps ∧ RAdd xs ys ps k c ∧ Below w.heap.size w wr) (fun _ _ iv _ => 2000002 - (intOf iv).toNat)
  case atStart => exact ⟨0, 0, [], by omega, fun _ => rfl, rfl, rfl, own_nil _ _ _ _, ⟨rfl, Dg.small_nil _ (by omega), by omega, by simp [Dg.vl], fun h => by omega⟩, Below.refl _ _⟩
  case round =>
    obtain ⟨k, c, ps, hk, hkc, rfl, rfl, own, hI, bel⟩ := hrel
    have hcl := hI.2.2.1
    have hpl := hI.1
    have hbs := bel.size
    by_cases hcond : k < xs.length ∨ k < ys.length ∨ 0 < c
    · have hk2 : k ≤ 2000000 := by
        rcases Nat.lt_or_ge 2000000 k with h | h
        · have := hkc h; omega
        · exact h
      have hxl := sa k
      have hyl := sb k
      have hx0 : ¬ k < xs.length → xs.getD k 0 = 0 := fun h => Dg.getD_of_le _ _ (by omega)
      have hy0 : ¬ k < ys.length → ys.getD k 0 = 0 := fun h => Dg.getD_of_le _ _ (by omega)
      have hst := fun t ht => rAdd_step hI na nb sa sb hcond t ht
      have hnc : 2000000 < k + 1 → (c + xs.getD k 0 + ys.getD k 0) / 65536 = 0 := fun h => by
        rw [hx0 (by omega), hy0 (by omega)]; omega
      have hcx : k < xs.length → ∃ b off, ao = some ⟨b, off, none⟩ ∧ wr.cell? ⟨b, off + k, none⟩ = some (.int .i64 ((xs.getD k 0 : Nat) : Int)) := fun h => by
        obtain ⟨b, off, e, hcell⟩ := hca (by omega)
        exact ⟨b, off, e, cell_later bel (hcell k h)⟩
      have hcy : k < ys.length → ∃ b off, bo = some ⟨b, off, none⟩ ∧ wr.cell? ⟨b, off + k, none⟩ = some (.int .i64 ((ys.getD k 0 : Nat) : Int)) := fun h => by
        obtain ⟨b, off, e, hcell⟩ := hcb (by omega)
        exact ⟨b, off, e, cell_later bel (hcell k h)⟩
      obtain ⟨x, ex⟩ : ∃ x, xs.getD k 0 = x := ⟨_, rfl⟩
      obtain ⟨y, ey⟩ : ∃ y, ys.getD k 0 = y := ⟨_, rfl⟩
      rw [ex] at hxl hx0 hst hnc hcx
      rw [ey] at hyl hy0 hst hnc hcy
      have hst := hst _ rfl
      have Hst : Hid (RAdd xs ys (ps ++ [(c + x + y) % 65536]) (k + 1) ((c + x + y) / 65536)) := hst
      have Hpl : Hid (ps.length = k) := hpl
      have Hnc : Hid (2000000 < k + 1 → (c + x + y) / 65536 = 0) := hnc
      have hpl2 : ps.length ≤ 2000000 := by omega
      clear ex ey hca hcb hI hst hkc hpl hnc
      have fin : ∀ (T : Int), T = ((c + x + y : Nat) : Int) → ∀ v' w3, w3.ownsRow w.heap.size 3 1 v' (ps.length + 1) ((ps.map (fun n : Nat => Value.int .i64 (n : Int))) ++ [.int .i64 (T % 65536)]) → (wr.alloc (.cells #[.int .i64 (T % 65536)] 3)).grownBy w3 (Value.ownBlock u5) →
          Own w3 w.heap.size 3 .i64 v' (ps ++ [(c + x + y) % 65536]) ∧ Below w.heap.size w w3 := by
        intro T hT v' w3 h1 h2
        have e0 : T % 65536 = (((c + x + y) % 65536 : Nat) : Int) := by omega
        rw [e0] at h1 h2
        exact own_append1 bel own h1 h2
      by_cases h1 : k < xs.length
      · obtain ⟨b, off, rfl, hcell⟩ := hcx h1
        by_cases h2 : k < ys.length
        · obtain ⟨b2, off2, rfl, hcell2⟩ := hcy h2
          clear hcx hcy hx0 hy0 hcond
          go_wp2_with (at_builtin; refine wpList_append_own _ rfl _ _ 30 rfl w.heap.size 3 i0 (.int .i64 0) 1 8 Tryz.underlying30 hi hz0 hz1 hz2 rfl (by decide) _ _ _ rfl (World.ownsRow.alloc own _) ⟨wr.heap.size, 0, none⟩ 1 1 [.int .i64 (((c : Int) + (x : Int) + (y : Int)) % 65536)] rfl rfl ?c1 ?c2 ?c3 ?c4 ?c5 ?_)
          case c1 => exact cell_one_new _ _ _
          case c2 => intro u hu; simp at hu; subst hu; rfl
          case c3 => unfold maxLen; omega
          case c4 => omega
          case c5 => simp; omega
          intro v' w3 hown' hgrow _
          have R := fin _ (by omega) v' w3 hown' hgrow
          clear hown' hgrow own fin
          go_wp2
          go_roundw
          case rel => exact ⟨k + 1, (c + x + y) / 65536, _, by omega, fun h => Hnc.out (by omega), by go_num, by go_num, R.1, Hst.out, R.2⟩
          case measure => simp [intOf]; omega
        · have hy := hy0 h2
          subst hy
          clear hcx hcy hx0 hy0 hcond
          go_wp2_with (at_builtin; refine wpList_append_own _ rfl _ _ 30 rfl w.heap.size 3 i0 (.int .i64 0) 1 8 Tryz.underlying30 hi hz0 hz1 hz2 rfl (by decide) _ _ _ rfl (World.ownsRow.alloc own _) ⟨wr.heap.size, 0, none⟩ 1 1 [.int .i64 (((c : Int) + (x : Int)) % 65536)] rfl rfl ?d1 ?d2 ?d3 ?d4 ?d5 ?_)
          case d1 => exact cell_one_new _ _ _
          case d2 => intro u hu; simp at hu; subst hu; rfl
          case d3 => unfold maxLen; omega
          case d4 => omega
          case d5 => simp; omega
          intro v' w3 hown' hgrow _
          have R := fin _ (by omega) v' w3 hown' hgrow
          clear hown' hgrow own fin
          go_wp2
          go_roundw
          case rel => exact ⟨k + 1, _, _, by omega, fun h => Hnc.out (by omega), by go_num, by go_num, R.1, Hst.out, R.2⟩
          case measure => simp [intOf]; omega
      · have hx := hx0 h1
        subst hx
        by_cases h2 : k < ys.length
        · obtain ⟨b2, off2, rfl, hcell2⟩ := hcy h2
          clear hcx hcy hx0 hy0 hcond
          go_wp2_with (at_builtin; refine wpList_append_own _ rfl _ _ 30 rfl w.heap.size 3 i0 (.int .i64 0) 1 8 Tryz.underlying30 hi hz0 hz1 hz2 rfl (by decide) _ _ _ rfl (World.ownsRow.alloc own _) ⟨wr.heap.size, 0, none⟩ 1 1 [.int .i64 (((c : Int) + (y : Int)) % 65536)] rfl rfl ?e1 ?e2 ?e3 ?e4 ?e5 ?_)
          case e1 => exact cell_one_new _ _ _
          case e2 => intro u hu; simp at hu; subst hu; rfl
          case e3 => unfold maxLen; omega
          case e4 => omega
          case e5 => simp; omega
          intro v' w3 hown' hgrow _
          have R := fin _ (by omega) v' w3 hown' hgrow
          clear hown' hgrow own fin
          go_wp2
          go_roundw
          case rel => exact ⟨k + 1, _, _, by omega, fun h => Hnc.out (by omega), by go_num, by go_num, R.1, Hst.out, R.2⟩
          case measure => simp [intOf]; omega
        · have hy := hy0 h2
          subst hy
          have hc0 : 0 < c := by omega
          clear hcx hcy hx0 hy0 hcond
          go_wp2_with (at_builtin; refine wpList_append_own _ rfl _ _ 30 rfl w.heap.size 3 i0 (.int .i64 0) 1 8 Tryz.underlying30 hi hz0 hz1 hz2 rfl (by decide) _ _ _ rfl (World.ownsRow.alloc own _) ⟨wr.heap.size, 0, none⟩ 1 1 [.int .i64 (((c : Int)) % 65536)] rfl rfl ?f1 ?f2 ?f3 ?f4 ?f5 ?_)
          case f1 => exact cell_one_new _ _ _
          case f2 => intro u hu; simp at hu; subst hu; rfl
          case f3 => unfold maxLen; omega
          case f4 => omega
          case f5 => simp; omega
          intro v' w3 hown' hgrow _
          have R := fin _ (by omega) v' w3 hown' hgrow
          clear hown' hgrow own fin
          go_wp2
          go_roundw
          case rel => exact ⟨k + 1, _, _, by omega, fun h => Hnc.out (by omega), by go_num, by go_num, R.1, Hst.out, R.2⟩
          case measure => simp [intOf]; omega
    · have he := rAdd_end hI hcond
      have h1 : ¬ k < xs.length := by omega
      have h2 : ¬ k < ys.length := by omega
      have h3 : ¬ 0 < c := by omega
      rw [he] at own
      clear he hcond
      go_wp2
      go_ret
      exact ⟨_, rfl, own.rd, bel⟩

set_option maxRecDepth 100000 in
set_option maxHeartbeats 3200000 in
theorem refless_any (va vb : Value) (xs ys : List Nat) (w : World) (ha : Rd w .i64 va xs) (hb : Rd w .i64 vb ys) (sa : Dg.Small 65536 xs) (sb : Dg.Small 65536 ys) (hla : xs.length ≤ 2000000) (hlb : ys.length ≤ xs.length) (hv : Dg.vl 65536 ys ≤ Dg.vl 65536 xs) :
    Calls Tryz.prog 45 #[va, vb] w (RNum w (Dg.vl 65536 xs - Dg.vl 65536 ys)) := by
  obtain ⟨ao, ca, rfl, -, -, hca⟩ := ha
  obtain ⟨bo, cb, rfl, -, -, hcb⟩ := hb
  obtain ⟨i0, hi, hz0, hz1, hz2⟩ := info_parts Tryz.infoI64
  have HV : Hid (Dg.vl 65536 ys ≤ Dg.vl 65536 xs) := hv
  clear hv
  go_enter Tryz.func45, Tryz.ntmps45
  go_wp2
  go_loopw [5, 6, 7] (fun ov cv iv wr => ∃ (k c : Nat) (ps : List Nat), k ≤ xs.length ∧ iv = .int .i64 k ∧ cv = .int .i64 c ∧ Own wr w.heap.size 3 .i64 ov ps ∧ RSub xs ys ps k c ∧ Below w.heap.size w wr) (fun _ _ iv _ => xs.length - (intOf iv).toNat)
  case atStart => exact ⟨0, 0, [], by omega, rfl, rfl, own_nil _ _ _ _, ⟨rfl, Dg.small_nil _ (by omega), by omega, by simp [Dg.vl]⟩, Below.refl _ _⟩
  case round =>
    obtain ⟨k, c, ps, hk, rfl, rfl, own, hI, bel⟩ := hrel
    have hcl := hI.2.2.1
    have hpl := hI.1
    have hbs := bel.size
    by_cases hlt : k < xs.length
    · obtain ⟨b, off, rfl, hcella⟩ := hca (by omega)
      have hcell := cell_later bel (hcella k hlt)
      have hxl := sa k
      have hyl := sb k
      have hy0 : ¬ k < ys.length → ys.getD k 0 = 0 := fun h => Dg.getD_of_le _ _ (by omega)
      have hst : ∀ d c', d < 65536 → c' ≤ 1 → xs.getD k 0 + 65536 * c' = d + ys.getD k 0 + c → RSub xs ys (ps ++ [d]) (k + 1) c' := fun d c' h1 h2 h3 => rSub_step hI h1 h2 h3
      have hcy : k < ys.length → ∃ b off, bo = some ⟨b, off, none⟩ ∧ wr.cell? ⟨b, off + k, none⟩ = some (.int .i64 ((ys.getD k 0 : Nat) : Int)) := fun h => by
        obtain ⟨b, off, e, hcell⟩ := hcb (by omega)
        exact ⟨b, off, e, cell_later bel (hcell k h)⟩
      obtain ⟨x, ex⟩ : ∃ x, xs.getD k 0 = x := ⟨_, rfl⟩
      obtain ⟨y, ey⟩ : ∃ y, ys.getD k 0 = y := ⟨_, rfl⟩
      rw [ex] at hxl hst hcell
      rw [ey] at hyl hy0 hst hcy
      have Hst : Hid (∀ d c', d < 65536 → c' ≤ 1 → x + 65536 * c' = d + y + c → RSub xs ys (ps ++ [d]) (k + 1) c') := hst
      have Hpl : Hid (ps.length = k) := hpl
      have hpl2 : ps.length ≤ 2000000 := by omega
      clear ex ey hca hcb hI hst hpl hcella
      have fin : ∀ (T : Int) (d : Nat), T = ((d : Nat) : Int) → ∀ v' w3, w3.ownsRow w.heap.size 3 1 v' (ps.length + 1) ((ps.map (fun n : Nat => Value.int .i64 (n : Int))) ++ [.int .i64 T]) → (wr.alloc (.cells #[.int .i64 T] 3)).grownBy w3 (Value.ownBlock u5) →
          Own w3 w.heap.size 3 .i64 v' (ps ++ [d]) ∧ Below w.heap.size w w3 := by
        intro T d hT v' w3 h1 h2
        rw [hT] at h1 h2
        exact own_append1 bel own h1 h2
      by_cases h2 : k < ys.length
      · obtain ⟨b2, off2, rfl, hcell2⟩ := hcy h2
        clear hcy hy0
        by_cases hneg : x < y + c
        · have hneg2 : ((x : Int) - (c : Int) - (y : Int)) < 0 := by omega
          go_wp2_with (at_builtin; refine wpList_append_own _ rfl _ _ 30 rfl w.heap.size 3 i0 (.int .i64 0) 1 8 Tryz.underlying30 hi hz0 hz1 hz2 rfl (by decide) _ _ _ rfl (World.ownsRow.alloc own _) ⟨wr.heap.size, 0, none⟩ 1 1 [.int .i64 ((x : Int) - (c : Int) - (y : Int) + 65536)] rfl rfl ?c1 ?c2 ?c3 ?c4 ?c5 ?_)
          try (case c1 => exact cell_one_new _ _ _)
          case c2 => first | rfl | (intro u hu; simp at hu; subst hu; rfl) | (simp; done) | (simp [Value.oneCell']; done) | (trace_state; fail)
          case c3 => unfold maxLen; omega
          case c4 => omega
          case c5 => first | omega | (simp; omega)
          intro v' w3 hown' hgrow _
          have R := fin _ (x + 65536 - y - c) (by omega) v' w3 hown' hgrow
          clear hown' hgrow own fin
          go_wp2
          go_roundw
          case rel => exact ⟨k + 1, 1, _, by omega, by go_num, by go_num, R.1, Hst.out _ _ (by omega) (by omega) (by omega), R.2⟩
          case measure => simp [intOf]; omega
        · have hneg2 : ¬ ((x : Int) - (c : Int) - (y : Int)) < 0 := by omega
          go_wp2_with (at_builtin; refine wpList_append_own _ rfl _ _ 30 rfl w.heap.size 3 i0 (.int .i64 0) 1 8 Tryz.underlying30 hi hz0 hz1 hz2 rfl (by decide) _ _ _ rfl (World.ownsRow.alloc own _) ⟨wr.heap.size, 0, none⟩ 1 1 [.int .i64 ((x : Int) - (c : Int) - (y : Int))] rfl rfl ?d1 ?d2 ?d3 ?d4 ?d5 ?_)
          try (case d1 => exact cell_one_new _ _ _)
          case d2 => first | rfl | (intro u hu; simp at hu; subst hu; rfl) | (simp; done) | (simp [Value.oneCell']; done) | (trace_state; fail)
          case d3 => unfold maxLen; omega
          case d4 => omega
          case d5 => first | omega | (simp; omega)
          intro v' w3 hown' hgrow _
          have R := fin _ (x - y - c) (by omega) v' w3 hown' hgrow
          clear hown' hgrow own fin
          go_wp2
          go_roundw
          case rel => exact ⟨k + 1, 0, _, by omega, by go_num, by go_num, R.1, Hst.out _ _ (by omega) (by omega) (by omega), R.2⟩
          case measure => simp [intOf]; omega
      · have hy := hy0 h2
        subst hy
        clear hcy hy0
        by_cases hneg : x < c
        · have hneg2 : ((x : Int) - (c : Int)) < 0 := by omega
          go_wp2_with (at_builtin; refine wpList_append_own _ rfl _ _ 30 rfl w.heap.size 3 i0 (.int .i64 0) 1 8 Tryz.underlying30 hi hz0 hz1 hz2 rfl (by decide) _ _ _ rfl (World.ownsRow.alloc own _) ⟨wr.heap.size, 0, none⟩ 1 1 [.int .i64 ((x : Int) - (c : Int) + 65536)] rfl rfl ?e1 ?e2 ?e3 ?e4 ?e5 ?_)
          try (case e1 => exact cell_one_new _ _ _)
          case e2 => first | rfl | (intro u hu; simp at hu; subst hu; rfl) | (simp; done) | (simp [Value.oneCell']; done) | (trace_state; fail)
          case e3 => unfold maxLen; omega
          case e4 => omega
          case e5 => first | omega | (simp; omega)
          intro v' w3 hown' hgrow _
          have R := fin _ (x + 65536 - c) (by omega) v' w3 hown' hgrow
          clear hown' hgrow own fin
          go_wp2
          go_roundw
          case rel => exact ⟨k + 1, 1, _, by omega, by go_num, by go_num, R.1, Hst.out _ _ (by omega) (by omega) (by omega), R.2⟩
          case measure => simp [intOf]; omega
        · have hneg2 : ¬ ((x : Int) - (c : Int)) < 0 := by omega
          go_wp2_with (at_builtin; refine wpList_append_own _ rfl _ _ 30 rfl w.heap.size 3 i0 (.int .i64 0) 1 8 Tryz.underlying30 hi hz0 hz1 hz2 rfl (by decide) _ _ _ rfl (World.ownsRow.alloc own _) ⟨wr.heap.size, 0, none⟩ 1 1 [.int .i64 ((x : Int) - (c : Int))] rfl rfl ?f1 ?f2 ?f3 ?f4 ?f5 ?_)
          try (case f1 => exact cell_one_new _ _ _)
          case f2 => first | rfl | (intro u hu; simp at hu; subst hu; rfl) | (simp; done) | (simp [Value.oneCell']; done) | (trace_state; fail)
          case f3 => unfold maxLen; omega
          case f4 => omega
          case f5 => first | omega | (simp; omega)
          intro v' w3 hown' hgrow _
          have R := fin _ (x - c) (by omega) v' w3 hown' hgrow
          clear hown' hgrow own fin
          go_wp2
          go_roundw
          case rel => exact ⟨k + 1, 0, _, by omega, by go_num, by go_num, R.1, Hst.out _ _ (by omega) (by omega) (by omega), R.2⟩
          case measure => simp [intOf]; omega
    · have hke : k = xs.length := by omega
      subst hke
      have hen := rSub_end hI hlb HV.out
      have hps := hI.2.1
      have hpl2 : ps.length ≤ 2000000 := by omega
      clear hpl
      obtain ⟨oo, oc, rfl⟩ := own.rd.shape
      go_wp2_with fail
      refine (reftrim_any _ _ _ _ _ own.rd).mono ?_
      rintro e w' ⟨n, rfl, hn, rfl⟩
      have hnl := hn.1
      have hr := rd_trim (cap' := n) 65536 (by omega) own.rd hps hn (Nat.le_refl _) (by unfold maxLen; omega)
      rw [hen] at hr
      clear hn hen
      go_wp2
      go_ret
      exact ⟨_, rfl, hr, bel⟩
end Go.Proofs.YtgbccbmflokooaaGreatDoor

/-
  Texts laid together: Ref1, Ref2, Ref3.
-/
import Derived.Deep.RegionLaw
import Derived.WalkSmall
import Derived.Test.YtiiphandhpilgaaGreatDoorEa03
namespace Go.Proofs.YtiiphandhpilgaaGreatDoor
open Go.RowKit
/-- append to the call's own slice, as one step of a region that draws. -/
theorem step_append_own {P : Program} {ops : Array Oper} {o : Oper} {a : Act} {w : World} {K : Act → World → Prop} {Q : Exit → Act → World → Prop} {E : Prop}
    (hg : o.guard = none) (s x : Operand) (t : TypeId) (hop : o.op = Op.call { callee := Callee.builtin Builtin.append, args := #[s, x], argTypes := #[t, t] })
    (base : Nat) (e : TypeId) (i : TypeInfo) (z : Value) (size bytes : Nat) (ht : P.underlying t = some (.slice e)) (hi : P.info? e = some i) (hz : i.zero = some z)
    (hsize : i.size = size) (hby : i.bytes = bytes) (hzs : z.cells.size = size) (hsz : 0 < size)
    (v : Value) (n : Nat) (xs : List Value) (hs : a.eval s = v) (hown : w.ownsRow base e size v n xs)
    (ad : Addr) (m c : Nat) (news : List Value) (hx : a.eval x = .slice (some ad) m c) (hl : news.length = m * size) (hnews : ∀ j u, news[j]? = some u → w.cell? (ad.add j) = some u) (h1 : ∀ u ∈ news, u.oneCell' = true)
    (h63 : n + m ≤ maxLen) (hbytes : (n + m) * bytes ≤ 140737488355328) (hbase : base ≤ w.heap.size)
    (hK : ∀ v' w', w'.ownsRow base e size v' (n + m) (xs ++ news) → w.grownBy w' v.ownBlock → K (a.put o.dst v') w') :
    if Region.wanted o (yielded ops a.tmps) = true then Oper.wp P o a w K Q else E := by
  have hw : Region.wanted o (yielded ops a.tmps) = true := by simp [Region.wanted, hg]
  rw [if_pos hw]
  obtain ⟨v', w', hrun, r1, r2, _⟩ := run_append_own (P := P) w base t o.type e i z size bytes ht hi hz hsize hby hzs hsz v n xs hown ad m c news hl hnews h1 h63 hbytes hbase
  unfold Oper.wp
  simp [execOp, hop, resolve, invoke, builtin, hs, hx, hrun, Result.andThen]
  exact hK v' w' r1 r2

theorem Tryz.infoI64 : (Tryz.prog.info? 3).map (fun i => (i.zero, i.size, i.bytes)) = some (some (.int .i64 0), 1, 8) := by kernel_rfl

/-- The halves of each digit. -/
def halves (xs : List Nat) : List Nat := xs.flatMap (fun x => [x % 65536, x / 65536])

theorem halves_length (xs : List Nat) : (halves xs).length = 2 * xs.length := by
  induction xs with
  | nil => rfl
  | cons x xs ih => simp only [halves, List.flatMap_cons, List.length_append, List.length_cons, List.length_nil] at *; omega

theorem halves_vl (xs : List Nat) : Dg.vl 65536 (halves xs) = Dg.vl 4294967296 xs := by
  induction xs with
  | nil => rfl
  | cons x xs ih =>
    have : halves (x :: xs) = x % 65536 :: x / 65536 :: halves xs := rfl
    rw [this]
    simp only [Dg.vl, ih]
    omega

theorem halves_small (xs : List Nat) (h : Dg.Small 4294967296 xs) : Dg.Small 65536 (halves xs) := by
  induction xs with
  | nil => exact Dg.small_nil _ (by omega)
  | cons x xs ih =>
    have h1 := Dg.small_cons.1 h
    have : halves (x :: xs) = x % 65536 :: x / 65536 :: halves xs := rfl
    rw [this]
    exact Dg.small_cons.2 ⟨by omega, Dg.small_cons.2 ⟨by omega, ih h1.2⟩⟩

theorem halves_snoc (xs : List Nat) (k : Nat) (h : k < xs.length) : halves (xs.take (k + 1)) = halves (xs.take k) ++ [xs.getD k 0 % 65536, xs.getD k 0 / 65536] := by
  rw [Dg.take_succ' xs k h]
  simp [halves]

/-- The call answers a number of the reference. -/
def RNum (w : World) (n : Nat) (e : Ending) (w' : World) : Prop :=
  ∃ v, e = .returned v ∧ Rd w' .i64 v (Dg.dg 65536 n) ∧ Below w.heap.size w w'

/-- The slice lies at a block from B on, or nowhere. -/
def Far (B : Nat) (v : Value) : Prop := ∀ a n c, v = .slice (some a) n c → B ≤ a.block

theorem own_far {w : World} {base e : Nat} {k : IntKind} {v : Value} {zs : List Nat} (h : Own w base e k v zs) : Far base v := fun a n c hv => by
  rcases h.2 with ⟨e1, _⟩ | ⟨g, cap, cur, e1, hg, _⟩
  · rw [e1] at hv; cases hv
  · rw [e1] at hv
    cases hv
    exact hg

theorem far_trim {B : Nat} {oo : Option Addr} {n c : Nat} (h : Far B (.slice oo n c)) (n' c' : Nat) : Far B (.slice oo n' c') := fun a m d hv => by
  cases hv
  exact h a n c rfl

/-- What is read far off is read so behind a store before it. -/
theorem Rd.set_far {w : World} {k : IntKind} {v : Value} {zs : List Nat} {B g j : Nat} (h : Rd w k v zs) (hf : Far B v) (hg : g < B) (x : Value) : Rd (w.setCell ⟨g, j, none⟩ x) k v zs := by
  obtain ⟨ao, cap, rfl, h1, h2, h3⟩ := h
  refine ⟨ao, cap, rfl, h1, h2, fun h0 => ?_⟩
  obtain ⟨b, off, rfl, hc⟩ := h3 h0
  have := hf _ _ _ rfl
  refine ⟨b, off, rfl, fun i hi => ?_⟩
  rw [World.cell?_setCell_other (h := by simp; intro e; simp at this; omega)]
  exact hc i hi

/-- The call answers a number of the reference that lies in memory of its own. -/
def RNumF (w : World) (n : Nat) (e : Ending) (w' : World) : Prop :=
  ∃ v, e = .returned v ∧ Rd w' .i64 v (Dg.dg 65536 n) ∧ Far w.heap.size v ∧ Below w.heap.size w w'

theorem Far.mono {B B' : Nat} {v : Value} (h : Far B v) (hb : B' ≤ B) : Far B' v := fun a n c hv => Nat.le_trans hb (h a n c hv)

theorem rd_trim {w : World} {k : IntKind} {ao : Option Addr} {len cap n cap' : Nat} {zs : List Nat} (B : Nat) (hB : 2 ≤ B) (h : Rd w k (.slice ao len cap) zs) (hs : Dg.Small B zs) (ht : TrimR zs n) (hc : n ≤ cap') (hc2 : cap' ≤ maxLen) :
    Rd w k (.slice ao n cap') (Dg.dg B (Dg.vl B zs)) := by
  have hl := rd_len h
  subst hl
  obtain ⟨h1, h2, h3⟩ := rd_open h
  rw [← Dg.trim_eq B hB zs n hs ht.1 ht.2.1 ht.2.2]
  have hn := ht.1
  have hl : (zs.take n).length = n := by simp; omega
  refine ⟨ao, cap', by rw [hl], by rw [hl]; exact hc, hc2, fun hp => ?_⟩
  rw [hl] at hp
  obtain ⟨b, off, ha, hcell⟩ := h3 (by omega)
  refine ⟨b, off, ha, fun i hi => ?_⟩
  rw [hl] at hi
  rw [hcell i (by omega), Dg.getD_take _ _ _ hi]

theorem of_append {w wr w3 : World} {x y : Nat} {es : List Nat} {lv v' : Value} (bel : Below w.heap.size w wr) (ownL : Own wr w.heap.size 3 .i64 lv es)
    (hown' : w3.ownsRow w.heap.size 3 1 v' (es.length + 2) ((es.map (fun n : Nat => Value.int .i64 (n : Int))) ++ [.int .i64 (x : Int), .int .i64 (y : Int)]))
    (hgrow : (wr.alloc (.cells #[.int .i64 (x : Int), .int .i64 (y : Int)] 3)).drew.grownBy w3 lv.ownBlock) :
    Own w3 w.heap.size 3 .i64 v' (es ++ [x, y]) ∧ Below w.heap.size w w3 := by
  have b1 : Below wr.heap.size wr (wr.alloc (.cells #[.int .i64 (x : Int), .int .i64 (y : Int)] 3)).drew := ((Below.refl _ _).alloc (Nat.le_refl _) _).drew
  refine ⟨?_, ?_⟩
  · unfold Own
    simpa using hown'
  · refine (below_trans bel b1).grown hgrow (Nat.le_trans bel.size b1.size) (fun k hk => ?_)
    exact (World.ownsRow.lt ownL k hk).1

set_option maxRecDepth 100000 in
set_option maxHeartbeats 1600000 in
theorem of_any (va : Value) (xs : List Nat) (w : World) (ha : Rd w .u32 va xs) (sa : Dg.Small 4294967296 xs) (hla : xs.length ≤ 1000000) :
    Calls Tryz.prog 26 #[va] w (RNum w (Dg.vl 4294967296 xs)) := by
  obtain ⟨ao, ca, rfl, -, -, hca⟩ := ha
  obtain ⟨i0, hi, hz0, hz1, hz2⟩ := info_parts Tryz.infoI64
  go_enter Tryz.func26, Tryz.ntmps26
  go_wp2
  go_loopw [3, 4] (fun ov iv wr => ∃ k : Nat, k ≤ xs.length ∧ iv = .int .i64 k ∧ Own wr w.heap.size 3 .i64 ov (halves (xs.take k)) ∧ Below w.heap.size w wr) (fun _ iv _ => xs.length - (intOf iv).toNat)
  case atStart => exact ⟨0, Nat.zero_le _, rfl, own_nil _ _ _ _, Below.refl _ _⟩
  case round =>
    obtain ⟨k, hk, rfl, own, bel⟩ := hrel
    by_cases hlt : k < xs.length
    · obtain ⟨b, off, rfl, hcell⟩ := hca (by omega)
      have hx := cell_later bel (hcell k hlt)
      have hxl := sa k
      have hsn := halves_snoc xs k hlt
      obtain ⟨x, ex⟩ : ∃ x, xs.getD k 0 = x := ⟨_, rfl⟩
      rw [ex] at hx hxl hsn
      have HS : Hid (halves (xs.take (k + 1)) = halves (xs.take k) ++ [x % 65536, x / 65536]) := hsn
      have hhl : (halves (xs.take k)).length ≤ 2000000 := by rw [halves_length]; simp; omega
      have hbs := bel.size
      obtain ⟨es, ees⟩ : ∃ es, halves (xs.take k) = es := ⟨_, rfl⟩
      rw [ees] at own hhl
      have HE : Hid (halves (xs.take k) = es) := ees
      clear ex hcell hca hsn ees
      obtain ⟨p, hp⟩ : ∃ p, x % 65536 = p := ⟨_, rfl⟩
      obtain ⟨q, hq⟩ : ∃ q, x / 65536 = q := ⟨_, rfl⟩
      have e1 : IntKind.i64.wrap (x : Int) = (x : Int) := IntWalk.i64_in _ ⟨by omega, by omega⟩
      have e2 : (x : Int).tmod 65536 = (p : Int) := by rw [Int.tmod_eq_emod_of_nonneg (by omega)]; omega
      have e3 : IntKind.i64.wrap ((x : Int).tdiv 65536) = (q : Int) := by rw [Int.tdiv_eq_ediv_of_nonneg (by omega), IntWalk.i64_in _ ⟨by omega, by omega⟩]; omega
      have e4 : IntKind.i64.wrap ((x : Int) / 65536) = (q : Int) := by rw [IntWalk.i64_in _ ⟨by omega, by omega⟩]; omega
      rw [hp, hq] at HS
      clear hp hq
      go_wp2
      go_region_law (refine step_append_own rfl (.tmp 11) (.tmp 24) 29 rfl w.heap.size 3 i0 (.int .i64 0) 1 8 Tryz.underlying29 hi hz0 hz1 hz2 rfl (by decide) _ es.length (es.map (fun n : Nat => Value.int .i64 (n : Int))) rfl (World.ownsRow.drew (World.ownsRow.alloc own _)) ⟨wr.heap.size, 0, none⟩ 2 2 [.int .i64 (p : Int), .int .i64 (q : Int)] rfl rfl (cell_two_new _ _ _ _) (by intro u hu; simp at hu; rcases hu with rfl | rfl <;> rfl) (by unfold maxLen; omega) (by omega) (by simp; omega) ?_; intro v' w3 hown' hgrow)
      all_goals
        have R := of_append bel own hown' hgrow
        clear hown' hgrow own e1 e2 e3 e4
        go_wp2
        go_roundw
        case rel =>
          have HS2 := HS.out
          rw [HE.out] at HS2
          exact ⟨k + 1, by omega, by go_num, by rw [HS2]; exact R.1, R.2⟩
        case measure => simp [intOf]; omega
    · have hke : k = xs.length := by omega
      subst hke
      have hshape := own.rd.shape
      rw [List.take_of_length_le (Nat.le_refl _)] at own
      obtain ⟨oo, oc, rfl⟩ := own.rd.shape
      go_wp2_with fail
      refine (reftrim_any _ _ _ _ _ own.rd).mono ?_
      rintro e w' ⟨n, rfl, hn, rfl⟩
      have hnl := hn.1
      rw [halves_length] at hnl
      have hr := rd_trim (cap' := n) 65536 (by omega) own.rd (halves_small xs sa) hn (Nat.le_refl _) (by unfold maxLen; omega)
      rw [halves_vl] at hr
      clear hshape hn
      go_wp2
      go_ret
      exact ⟨_, rfl, hr, bel⟩
end Go.Proofs.YtiiphandhpilgaaGreatDoor
namespace Go.Proofs.YtiiphandhpilgaaGreatDoor
open Go.RowKit
theorem vl_take_any (B : Nat) (l : List Nat) (k : Nat) : Dg.vl B (l.take (k + 1)) = Dg.vl B (l.take k) + B ^ k * l.getD k 0 := by
  by_cases h : k < l.length
  · exact Dg.vl_take_succ _ _ _ h
  · rw [List.take_of_length_le (by omega), List.take_of_length_le (by omega), Dg.getD_of_le _ _ (by omega)]; omega

theorem own_append1 {w wr w3 : World} {e x : Nat} {k : IntKind} {es : List Nat} {lv v' : Value} (bel : Below w.heap.size w wr) (ownL : Own wr w.heap.size e k lv es)
    (hown' : w3.ownsRow w.heap.size e 1 v' (es.length + 1) ((es.map (fun n : Nat => Value.int k (n : Int))) ++ [.int k (x : Int)]))
    (hgrow : (wr.alloc (.cells #[.int k (x : Int)] e)).grownBy w3 lv.ownBlock) :
    Own w3 w.heap.size e k v' (es ++ [x]) ∧ Below w.heap.size w w3 := by
  have b1 : Below wr.heap.size wr (wr.alloc (.cells #[.int k (x : Int)] e)) := (Below.refl _ _).alloc (Nat.le_refl _) _
  refine ⟨?_, ?_⟩
  · unfold Own
    simpa using hown'
  · refine (below_trans bel b1).grown hgrow (Nat.le_trans bel.size b1.size) (fun k hk => ?_)
    exact (World.ownsRow.lt ownL k hk).1

set_option maxRecDepth 100000 in
set_option maxHeartbeats 1600000 in
theorem same_any (va vb : Value) (xs ys : List Nat) (w : World) (ha : Rd w .u32 va xs) (hb : Rd w .u32 vb ys) :
    Calls Tryz.prog 36 #[va, vb] w fun e w' => e = .returned (.bool (decide (xs = ys))) ∧ Below w.heap.size w w' := by
  obtain ⟨ao, ca, rfl, hla, hma, hca⟩ := ha
  obtain ⟨bo, cb, rfl, hlb, hmb, hcb⟩ := hb
  unfold maxLen at hma hmb
  obtain ⟨r, hr⟩ : ∃ r, decide (xs = ys) = r := ⟨_, rfl⟩
  rw [hr]
  by_cases hle : xs.length = ys.length
  · have HR : Hid (decide (xs = ys) = r) := hr
    have HL : Hid (xs.length = ys.length) := hle
    rw [hle] at hla hca ⊢
    clear hr hle
    go_enter Tryz.func36, Tryz.ntmps36
    go_wp2
    go_loopw [5] (fun iv wr => ∃ k : Nat, k ≤ ys.length ∧ iv = .int .i64 k ∧ Hid (∀ j, j < k → xs.getD j 0 = ys.getD j 0) ∧ Below w.heap.size w wr) (fun iv _ => ys.length - (intOf iv).toNat)
    case atStart => exact ⟨0, Nat.zero_le _, rfl, fun j hj => by omega, Below.refl _ _⟩
    case round =>
      obtain ⟨k, hk, rfl, hall, bel⟩ := hrel
      by_cases hlt : k < ys.length
      · obtain ⟨b, off, rfl, hcell⟩ := hca (by omega)
        obtain ⟨b2, off2, rfl, hcell2⟩ := hcb (by omega)
        have hx := cell_later bel (hcell k hlt)
        have hy := cell_later bel (hcell2 k hlt)
        have hst : xs.getD k 0 ≠ ys.getD k 0 → decide (xs = ys) = false := fun h => by
          rw [decide_eq_false]; intro e; rw [e] at h; exact h rfl
        rw [HR.out] at hst
        obtain ⟨x, ex⟩ : ∃ x, xs.getD k 0 = x := ⟨_, rfl⟩
        obtain ⟨y, ey⟩ : ∃ y, ys.getD k 0 = y := ⟨_, rfl⟩
        have HX : Hid (xs.getD k 0 = x) := ex
        have HY : Hid (ys.getD k 0 = y) := ey
        rw [ex] at hx hst
        rw [ey] at hy hst
        clear ex ey hcell hcell2 hca hcb
        by_cases hxy : x = y
        · subst hxy
          clear hst
          go_wp2
          go_quiet (fail)
          go_wp2
          go_roundw
          case rel => exact ⟨k + 1, by omega, by go_num, fun j hj => by
            by_cases e : j = k
            · rw [e]; exact HX.out.trans HY.out.symm
            · exact hall j (by omega), below_drewN bel _⟩
          case measure => simp [intOf]; omega
        · have hrf := hst hxy
          subst hrf
          have hne : ((x : Int) != (y : Int)) = true := by rw [bne_iff_ne]; omega
          go_wp2
          go_quiet (fail)
          go_wp2
          go_ret
          exact ⟨rfl, below_drewN bel _⟩
      · have he : xs = ys := Dg.eq_of_all xs ys HL.out (fun j => by
          by_cases hj : j < k
          · exact hall j hj
          · rw [Dg.getD_of_le xs j (by rw [HL.out]; omega), Dg.getD_of_le ys j (by omega)])
        have hrt : r = true := by rw [← HR.out]; exact decide_eq_true he
        subst hrt
        clear he
        go_wp2
        go_ret
        exact ⟨rfl, bel⟩
  · have hrf : r = false := by rw [← hr]; apply decide_eq_false; intro e; rw [e] at hle; exact hle rfl
    subst hrf
    clear hr
    have hne : ((xs.length : Int) != (ys.length : Int)) = true := by rw [bne_iff_ne]; omega
    go_enter Tryz.func36, Tryz.ntmps36
    go_wp2
    go_ret
    exact ⟨rfl, Below.refl _ _⟩
end Go.Proofs.YtiiphandhpilgaaGreatDoor
namespace Go.Proofs.YtiiphandhpilgaaGreatDoor
open Go.RowKit
set_option maxRecDepth 100000 in
set_option maxHeartbeats 1600000 in
theorem refcmp_any (va vb : Value) (xs ys : List Nat) (w : World) (ha : Rd w .i64 va xs) (hb : Rd w .i64 vb ys) (sa : Dg.Small 65536 xs) (sb : Dg.Small 65536 ys) (na : Dg.Norm xs) (nb : Dg.Norm ys) :
    Calls Tryz.prog 46 #[va, vb] w fun e w' => e = .returned (.int .i64 (cmpI (Dg.vl 65536 xs) (Dg.vl 65536 ys))) ∧ Below w.heap.size w w' := by
  obtain ⟨ao, ca, rfl, hla, hma, hca⟩ := ha
  obtain ⟨bo, cb, rfl, hlb, hmb, hcb⟩ := hb
  unfold maxLen at hma hmb
  by_cases h1 : xs.length < ys.length
  · have hv := Dg.vl_lt_of_len 65536 (by omega) xs ys sa nb h1
    rw [cmpI_lt (by omega)]
    have hne : ((xs.length : Int) != (ys.length : Int)) = true := by rw [bne_iff_ne]; omega
    go_enter Tryz.func46, Tryz.ntmps46
    go_wp2
    go_ret
    exact ⟨rfl, Below.refl _ _⟩
  · by_cases h2 : ys.length < xs.length
    · have hv := Dg.vl_lt_of_len 65536 (by omega) ys xs sb na h2
      rw [cmpI_gt (by omega)]
      have hne : ((xs.length : Int) != (ys.length : Int)) = true := by rw [bne_iff_ne]; omega
      go_enter Tryz.func46, Tryz.ntmps46
      go_wp2
      go_ret
      exact ⟨rfl, Below.refl _ _⟩
    · have hle : xs.length = ys.length := by omega
      obtain ⟨r, hr⟩ : ∃ r, cmpI (Dg.vl 65536 xs) (Dg.vl 65536 ys) = r := ⟨_, rfl⟩
      rw [hr]
      have HR : Hid (cmpI (Dg.vl 65536 xs) (Dg.vl 65536 ys) = r) := hr
      have HL : Hid (xs.length = ys.length) := hle
      rw [hle] at hla hca ⊢
      clear hr hle h1 h2
      go_enter Tryz.func46, Tryz.ntmps46
      go_wp2
      go_loopw [5] (fun iv wr => ∃ k : Nat, k ≤ ys.length ∧ iv = .int .i64 ((k : Int) - 1) ∧ Hid (∀ j, k ≤ j → xs.getD j 0 = ys.getD j 0) ∧ Below w.heap.size w wr) (fun iv _ => (intOf iv + 1).toNat)
      case atStart => exact ⟨ys.length, Nat.le_refl _, rfl, fun j hj => by rw [Dg.getD_of_le xs j (by rw [HL.out]; exact hj), Dg.getD_of_le ys j hj], Below.refl _ _⟩
      case round =>
        obtain ⟨k, hk, rfl, hall, bel⟩ := hrel
        by_cases hk0 : k = 0
        · subst hk0
          have he := Dg.eq_of_all xs ys HL.out (fun j => hall j (by omega))
          have hr0 : r = 0 := by rw [← HR.out, he, cmpI_eq]
          subst hr0
          clear he
          go_wp2
          go_ret
          exact ⟨rfl, bel⟩
        · obtain ⟨m, rfl⟩ : ∃ m, k = m + 1 := ⟨k - 1, by omega⟩
          obtain ⟨b, off, rfl, hcell⟩ := hca (by omega)
          obtain ⟨b2, off2, rfl, hcell2⟩ := hcb (by omega)
          have hx := cell_later bel (hcell m (by omega))
          have hy := cell_later bel (hcell2 m (by omega))
          have hst : xs.getD m 0 < ys.getD m 0 → cmpI (Dg.vl 65536 xs) (Dg.vl 65536 ys) = -1 := fun h =>
            cmpI_lt (by have := Dg.vl_lt_of_digit 65536 xs ys m HL.out (by rw [HL.out]; omega) hall h sa; omega)
          have hst2 : ys.getD m 0 < xs.getD m 0 → cmpI (Dg.vl 65536 xs) (Dg.vl 65536 ys) = 1 := fun h =>
            cmpI_gt (by have := Dg.vl_lt_of_digit 65536 ys xs m HL.out.symm (by omega) (fun j hj => (hall j hj).symm) h sb; omega)
          rw [HR.out] at hst hst2
          obtain ⟨x, ex⟩ : ∃ x, xs.getD m 0 = x := ⟨_, rfl⟩
          obtain ⟨y, ey⟩ : ∃ y, ys.getD m 0 = y := ⟨_, rfl⟩
          have HX : Hid (xs.getD m 0 = x) := ex
          have HY : Hid (ys.getD m 0 = y) := ey
          rw [ex] at hx hst hst2
          rw [ey] at hy hst hst2
          clear ex ey hcell hcell2 hca hcb
          have hmI : ((m + 1 : Nat) : Int) - 1 = (m : Int) := by omega
          rw [hmI]
          clear hmI
          by_cases hxy : x < y
          · have hr1 := hst hxy
            subst hr1
            clear hst hst2
            go_wp2
            go_quiet (fail)
            go_wp2
            go_ret
            exact ⟨rfl, below_drewN bel _⟩
          · by_cases hyx : y < x
            · have hr1 := hst2 hyx
              subst hr1
              clear hst hst2
              go_wp2
              go_quiet (fail)
              go_wp2
              go_quiet (fail)
              go_wp2
              go_ret
              exact ⟨rfl, below_drewN (below_drewN bel _) _⟩
            · have hxe : x = y := by omega
              subst hxe
              clear hst hst2
              go_wp2
              go_quiet (fail)
              go_wp2
              go_quiet (fail)
              go_wp2
              go_roundw
              case rel => exact ⟨m, by omega, by go_num, fun j hj => by
                by_cases e : j = m
                · rw [e]; exact HX.out.trans HY.out.symm
                · exact hall j (by omega), below_drewN bel _⟩
              case measure => simp [intOf]
end Go.Proofs.YtiiphandhpilgaaGreatDoor

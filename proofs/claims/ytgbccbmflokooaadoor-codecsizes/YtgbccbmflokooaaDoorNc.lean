/-
  Texts laid together: Ref1, Ref2, Ref3, Ref4.
-/
import Derived.Test.YtgbccbmflokooaaDoorNb
import Derived.Deep.RegionLaw
import Derived.WalkSmall
/-
  Contracts of the reference's Of: digits to the base of 65536.
-/
namespace Go.Proofs.YtgbccbmflokooaaDoor
open Go.RowKit

/-- append to the call's own slice, as one step of a region that draws. -/
theorem step_append_own {P : Program} {ops : Array Oper} {o : Oper} {a : Act} {w : World} {K : Act → World → Prop} {Q : Exit → Act → World → Prop} {E : Prop}
    (hg : o.guard = none) (s x : Operand) (t : TypeId) (hop : o.op = Op.call { callee := Callee.builtin Builtin.append, args := #[s, x], argTypes := #[t, t] })
    (base : Nat) (e : TypeId) (i : TypeInfo) (z : Value) (size bytes : Nat) (ht : P.underlying t = some (.slice e)) (hi : P.info? e = some i) (hz : i.zero = some z)
    (hsize : i.size = size) (hby : i.bytes = bytes) (hzs : z.cells.size = size) (hsz : 0 < size)
    (v : Value) (n : Nat) (xs : List Value) (hs : a.eval s = v) (hown : w.ownsRow base e size v n xs)
    (ad : Addr) (m c : Nat) (news : List Value) (hx : a.eval x = .slice (some ad) m c) (hl : news.length = m * size) (hnews : ∀ j u, news[j]? = some u → w.cell? (ad.add j) = some u) (h1 : ∀ u ∈ news, u.oneCell' = true)
    (h63 : n + m ≤ maxLen) (hbytes : (n + m) * bytes ≤ 140737488355328) (hbase : base ≤ w.heap.size)
    (hK : ∀ v' w', w'.ownsRow base e size v' (n + m) (xs ++ news) → w.grownBy w' v.ownBlock → K (a.put o.dst v') w') :
    if Region.wanted o (yielded ops a.tmps) = true then Oper.wp P o a w K Q else E := by
  have hw : Region.wanted o (yielded ops a.tmps) = true := by simp [Region.wanted, hg]
  rw [if_pos hw]
  obtain ⟨v', w', hrun, r1, r2, _⟩ := run_append_own (P := P) w base t o.type e i z size bytes ht hi hz hsize hby hzs hsz v n xs hown ad m c news hl hnews h1 h63 hbytes hbase
  unfold Oper.wp
  simp [execOp, hop, resolve, invoke, builtin, hs, hx, hrun, Result.andThen]
  exact hK v' w' r1 r2

theorem Tryd.infoI64 : (Tryd.prog.info? 3).map (fun i => (i.zero, i.size, i.bytes)) = some (some (.int .i64 0), 1, 8) := by kernel_rfl

/-- The halves of each digit. -/
def halves (xs : List Nat) : List Nat := xs.flatMap (fun x => [x % 65536, x / 65536])

theorem halves_length (xs : List Nat) : (halves xs).length = 2 * xs.length := by
  induction xs with
  | nil => rfl
  | cons x xs ih => simp only [halves, List.flatMap_cons, List.length_append, List.length_cons, List.length_nil] at *; omega

theorem halves_vl (xs : List Nat) : Dg.vl 65536 (halves xs) = Dg.vl 4294967296 xs := by
  induction xs with
  | nil => rfl
  | cons x xs ih =>
    have : halves (x :: xs) = x % 65536 :: x / 65536 :: halves xs := rfl
    rw [this]
    simp only [Dg.vl, ih]
    omega

theorem halves_small (xs : List Nat) (h : Dg.Small 4294967296 xs) : Dg.Small 65536 (halves xs) := by
  induction xs with
  | nil => exact Dg.small_nil _ (by omega)
  | cons x xs ih =>
    have h1 := Dg.small_cons.1 h
    have : halves (x :: xs) = x % 65536 :: x / 65536 :: halves xs := rfl
    rw [this]
    exact Dg.small_cons.2 ⟨by omega, Dg.small_cons.2 ⟨by omega, ih h1.2⟩⟩

theorem halves_snoc (xs : List Nat) (k : Nat) (h : k < xs.length) : halves (xs.take (k + 1)) = halves (xs.take k) ++ [xs.getD k 0 % 65536, xs.getD k 0 / 65536] := by
  rw [Dg.take_succ' xs k h]
  simp [halves]

/-- The call answers a number of the reference. -/
def RNum (w : World) (n : Nat) (e : Ending) (w' : World) : Prop :=
  ∃ v, e = .returned v ∧ Rd w' .i64 v (Dg.dg 65536 n) ∧ Below w.heap.size w w'

/-- The slice lies at a block from B on, or nowhere. -/
def Far (B : Nat) (v : Value) : Prop := ∀ a n c, v = .slice (some a) n c → B ≤ a.block

theorem own_far {w : World} {base e : Nat} {k : IntKind} {v : Value} {zs : List Nat} (h : Own w base e k v zs) : Far base v := fun a n c hv => by
  rcases h.2 with ⟨e1, _⟩ | ⟨g, cap, cur, e1, hg, _⟩
  · rw [e1] at hv; cases hv
  · rw [e1] at hv
    cases hv
    exact hg

theorem far_trim {B : Nat} {oo : Option Addr} {n c : Nat} (h : Far B (.slice oo n c)) (n' c' : Nat) : Far B (.slice oo n' c') := fun a m d hv => by
  cases hv
  exact h a n c rfl

/-- What is read far off is read so behind a store before it. -/
theorem Rd.set_far {w : World} {k : IntKind} {v : Value} {zs : List Nat} {B g j : Nat} (h : Rd w k v zs) (hf : Far B v) (hg : g < B) (x : Value) : Rd (w.setCell ⟨g, j, none⟩ x) k v zs := by
  obtain ⟨ao, cap, rfl, h1, h2, h3⟩ := h
  refine ⟨ao, cap, rfl, h1, h2, fun h0 => ?_⟩
  obtain ⟨b, off, rfl, hc⟩ := h3 h0
  have := hf _ _ _ rfl
  refine ⟨b, off, rfl, fun i hi => ?_⟩
  rw [World.cell?_setCell_other (h := by simp; intro e; simp at this; omega)]
  exact hc i hi

/-- The call answers a number of the reference that lies in memory of its own. -/
def RNumF (w : World) (n : Nat) (e : Ending) (w' : World) : Prop :=
  ∃ v, e = .returned v ∧ Rd w' .i64 v (Dg.dg 65536 n) ∧ Far w.heap.size v ∧ Below w.heap.size w w'

theorem Far.mono {B B' : Nat} {v : Value} (h : Far B v) (hb : B' ≤ B) : Far B' v := fun a n c hv => Nat.le_trans hb (h a n c hv)

theorem rd_trim {w : World} {k : IntKind} {ao : Option Addr} {len cap n cap' : Nat} {zs : List Nat} (B : Nat) (hB : 2 ≤ B) (h : Rd w k (.slice ao len cap) zs) (hs : Dg.Small B zs) (ht : TrimR zs n) (hc : n ≤ cap') (hc2 : cap' ≤ maxLen) :
    Rd w k (.slice ao n cap') (Dg.dg B (Dg.vl B zs)) := by
  have hl := rd_len h
  subst hl
  obtain ⟨h1, h2, h3⟩ := rd_open h
  rw [← Dg.trim_eq B hB zs n hs ht.1 ht.2.1 ht.2.2]
  have hn := ht.1
  have hl : (zs.take n).length = n := by simp; omega
  refine ⟨ao, cap', by rw [hl], by rw [hl]; exact hc, hc2, fun hp => ?_⟩
  rw [hl] at hp
  obtain ⟨b, off, ha, hcell⟩ := h3 (by omega)
  refine ⟨b, off, ha, fun i hi => ?_⟩
  rw [hl] at hi
  rw [hcell i (by omega), Dg.getD_take _ _ _ hi]

theorem of_append {w wr w3 : World} {x y : Nat} {es : List Nat} {lv v' : Value} (bel : Below w.heap.size w wr) (ownL : Own wr w.heap.size 3 .i64 lv es)
    (hown' : w3.ownsRow w.heap.size 3 1 v' (es.length + 2) ((es.map (fun n : Nat => Value.int .i64 (n : Int))) ++ [.int .i64 (x : Int), .int .i64 (y : Int)]))
    (hgrow : (wr.alloc (.cells #[.int .i64 (x : Int), .int .i64 (y : Int)] 3)).drew.grownBy w3 lv.ownBlock) :
    Own w3 w.heap.size 3 .i64 v' (es ++ [x, y]) ∧ Below w.heap.size w w3 := by
  have b1 : Below wr.heap.size wr (wr.alloc (.cells #[.int .i64 (x : Int), .int .i64 (y : Int)] 3)).drew := ((Below.refl _ _).alloc (Nat.le_refl _) _).drew
  refine ⟨?_, ?_⟩
  · unfold Own
    simpa using hown'
  · refine (below_trans bel b1).grown hgrow (Nat.le_trans bel.size b1.size) (fun k hk => ?_)
    exact (World.ownsRow.lt ownL k hk).1

end Go.Proofs.YtgbccbmflokooaaDoor
/-
  Contracts of the reference's To and SameNat.
-/
namespace Go.Proofs.YtgbccbmflokooaaDoor
open Go.RowKit

/-- Two digits made one. -/
def pairAt (ds : List Nat) (j : Nat) : Nat := ds.getD (2 * j) 0 + 65536 * ds.getD (2 * j + 1) 0
def pairsTo (ds : List Nat) (k : Nat) : List Nat := (List.range k).map (pairAt ds)

theorem pairsTo_succ (ds : List Nat) (k : Nat) : pairsTo ds (k + 1) = pairsTo ds k ++ [pairAt ds k] := by simp [pairsTo, List.range_succ]
theorem pairsTo_length (ds : List Nat) (k : Nat) : (pairsTo ds k).length = k := by simp [pairsTo]

theorem vl_take_any (B : Nat) (l : List Nat) (k : Nat) : Dg.vl B (l.take (k + 1)) = Dg.vl B (l.take k) + B ^ k * l.getD k 0 := by
  by_cases h : k < l.length
  · exact Dg.vl_take_succ _ _ _ h
  · rw [List.take_of_length_le (by omega), List.take_of_length_le (by omega), Dg.getD_of_le _ _ (by omega)]; omega

theorem pow_two (k : Nat) : (65536 : Nat) ^ (2 * k) = 4294967296 ^ k := by rw [Nat.pow_mul]

theorem pairsTo_vl (ds : List Nat) (k : Nat) : Dg.vl 4294967296 (pairsTo ds k) = Dg.vl 65536 (ds.take (2 * k)) := by
  induction k with
  | zero => rfl
  | succ k ih =>
    rw [pairsTo_succ, Dg.vl_append, ih, pairsTo_length, show 2 * (k + 1) = 2 * k + 1 + 1 from by omega, vl_take_any, vl_take_any]
    simp only [Dg.vl, pairAt, Nat.pow_succ, pow_two, Nat.mul_zero, Nat.add_zero]
    rw [Nat.mul_add, Nat.mul_assoc]
    omega

theorem pairAt_lt (ds : List Nat) (h : Dg.Small 65536 ds) (j : Nat) : pairAt ds j < 4294967296 := by
  have h1 := h (2 * j)
  have h2 := h (2 * j + 1)
  unfold pairAt
  omega

theorem pairsTo_getD (ds : List Nat) (k i : Nat) (h : i < k) : (pairsTo ds k).getD i 0 = pairAt ds i := by
  simp [pairsTo, List.getD_eq_getElem?_getD, h]

theorem pairsTo_eq (ds : List Nat) (hs : Dg.Small 65536 ds) (hn : Dg.Norm ds) (k : Nat) (h1 : ds.length ≤ 2 * k) (h2 : 2 * k ≤ ds.length + 1) : pairsTo ds k = Dg.dg 4294967296 (Dg.vl 65536 ds) := by
  refine Dg.eq_dg 4294967296 (by omega) _ _ (fun i => ?_) (fun hne => ?_) ?_
  · by_cases hi : i < k
    · rw [pairsTo_getD ds k i hi]; exact pairAt_lt ds hs i
    · rw [Dg.getD_of_le _ _ (by rw [pairsTo_length]; omega)]; omega
  · have hk : 0 < k := by
      rcases Nat.eq_zero_or_pos k with e | e
      · subst e; exact absurd rfl hne
      · exact e
    rw [pairsTo_length, pairsTo_getD ds k _ (by omega)]
    have hdn : ds ≠ [] := by intro e; subst e; simp at h2; omega
    have := hn hdn
    unfold pairAt
    by_cases he : ds.length = 2 * k
    · rw [he, show 2 * k - 1 = 2 * (k - 1) + 1 from by omega] at this; omega
    · rw [show ds.length - 1 = 2 * (k - 1) from by omega] at this; omega
  · rw [pairsTo_vl, List.take_of_length_le h1]

theorem own_append1 {w wr w3 : World} {e x : Nat} {k : IntKind} {es : List Nat} {lv v' : Value} (bel : Below w.heap.size w wr) (ownL : Own wr w.heap.size e k lv es)
    (hown' : w3.ownsRow w.heap.size e 1 v' (es.length + 1) ((es.map (fun n : Nat => Value.int k (n : Int))) ++ [.int k (x : Int)]))
    (hgrow : (wr.alloc (.cells #[.int k (x : Int)] e)).grownBy w3 lv.ownBlock) :
    Own w3 w.heap.size e k v' (es ++ [x]) ∧ Below w.heap.size w w3 := by
  have b1 : Below wr.heap.size wr (wr.alloc (.cells #[.int k (x : Int)] e)) := (Below.refl _ _).alloc (Nat.le_refl _) _
  refine ⟨?_, ?_⟩
  · unfold Own
    simpa using hown'
  · refine (below_trans bel b1).grown hgrow (Nat.le_trans bel.size b1.size) (fun k hk => ?_)
    exact (World.ownsRow.lt ownL k hk).1

set_option maxRecDepth 100000 in
set_option maxHeartbeats 1600000 in
theorem same_any (va vb : Value) (xs ys : List Nat) (w : World) (ha : Rd w .u32 va xs) (hb : Rd w .u32 vb ys) :
    Calls Tryd.prog 14 #[va, vb] w fun e w' => e = .returned (.bool (decide (xs = ys))) ∧ Below w.heap.size w w' := by
  obtain ⟨ao, ca, rfl, hla, hma, hca⟩ := ha
  obtain ⟨bo, cb, rfl, hlb, hmb, hcb⟩ := hb
  unfold maxLen at hma hmb
  obtain ⟨r, hr⟩ : ∃ r, decide (xs = ys) = r := ⟨_, rfl⟩
  rw [hr]
  by_cases hle : xs.length = ys.length
  · have HR : Hid (decide (xs = ys) = r) := hr
    have HL : Hid (xs.length = ys.length) := hle
    rw [hle] at hla hca ⊢
    clear hr hle
    go_enter Tryd.func14, Tryd.ntmps14
    go_wp2
    go_loopw [5] (fun iv wr => ∃ k : Nat, k ≤ ys.length ∧ iv = .int .i64 k ∧ Hid (∀ j, j < k → xs.getD j 0 = ys.getD j 0) ∧ Below w.heap.size w wr) (fun iv _ => ys.length - (intOf iv).toNat)
    case atStart => exact ⟨0, Nat.zero_le _, rfl, fun j hj => by omega, Below.refl _ _⟩
    case round =>
      obtain ⟨k, hk, rfl, hall, bel⟩ := hrel
      by_cases hlt : k < ys.length
      · obtain ⟨b, off, rfl, hcell⟩ := hca (by omega)
        obtain ⟨b2, off2, rfl, hcell2⟩ := hcb (by omega)
        have hx := cell_later bel (hcell k hlt)
        have hy := cell_later bel (hcell2 k hlt)
        have hst : xs.getD k 0 ≠ ys.getD k 0 → decide (xs = ys) = false := fun h => by
          rw [decide_eq_false]; intro e; rw [e] at h; exact h rfl
        rw [HR.out] at hst
        obtain ⟨x, ex⟩ : ∃ x, xs.getD k 0 = x := ⟨_, rfl⟩
        obtain ⟨y, ey⟩ : ∃ y, ys.getD k 0 = y := ⟨_, rfl⟩
        have HX : Hid (xs.getD k 0 = x) := ex
        have HY : Hid (ys.getD k 0 = y) := ey
        rw [ex] at hx hst
        rw [ey] at hy hst
        clear ex ey hcell hcell2 hca hcb
        by_cases hxy : x = y
        · subst hxy
          clear hst
          go_wp2
          go_quiet (fail)
          go_wp2
          go_roundw
          case rel => exact ⟨k + 1, by omega, by go_num, fun j hj => by
            by_cases e : j = k
            · rw [e]; exact HX.out.trans HY.out.symm
            · exact hall j (by omega), below_drewN bel _⟩
          case measure => simp [intOf]; omega
        · have hrf := hst hxy
          subst hrf
          have hne : ((x : Int) != (y : Int)) = true := by rw [bne_iff_ne]; omega
          go_wp2
          go_quiet (fail)
          go_wp2
          go_ret
          exact ⟨rfl, below_drewN bel _⟩
      · have he : xs = ys := Dg.eq_of_all xs ys HL.out (fun j => by
          by_cases hj : j < k
          · exact hall j hj
          · rw [Dg.getD_of_le xs j (by rw [HL.out]; omega), Dg.getD_of_le ys j (by omega)])
        have hrt : r = true := by rw [← HR.out]; exact decide_eq_true he
        subst hrt
        clear he
        go_wp2
        go_ret
        exact ⟨rfl, bel⟩
  · have hrf : r = false := by rw [← hr]; apply decide_eq_false; intro e; rw [e] at hle; exact hle rfl
    subst hrf
    clear hr
    have hne : ((xs.length : Int) != (ys.length : Int)) = true := by rw [bne_iff_ne]; omega
    go_enter Tryd.func14, Tryd.ntmps14
    go_wp2
    go_ret
    exact ⟨rfl, Below.refl _ _⟩
end Go.Proofs.YtgbccbmflokooaaDoor
/-
  Contracts of the reference's Cmp and TwoNats, and of the laws' long and natIs.
-/
namespace Go.Proofs.YtgbccbmflokooaaDoor
open Go.RowKit

end Go.Proofs.YtgbccbmflokooaaDoor
/-
  Contracts of the reference's Plus and Less.
-/
namespace Go.Proofs.YtgbccbmflokooaaDoor
open Go.RowKit

theorem vl_ge_pow (B : Nat) (l : List Nat) (hn : Dg.Norm l) (k : Nat) (h : k < l.length) (hB : 0 < B) : B ^ k ≤ Dg.vl B l := by
  have h1 := Dg.vl_ge B l (by intro e; subst e; simp at h) hn
  exact Nat.le_trans (Nat.pow_le_pow_right hB (by omega)) h1

/-- What Plus keeps. -/
def RAdd (xs ys ps : List Nat) (k c : Nat) : Prop :=
  ps.length = k ∧ Dg.Small 65536 ps ∧ c ≤ 1 ∧ Dg.vl 65536 ps + 65536 ^ k * c = Dg.vl 65536 (xs.take k) + Dg.vl 65536 (ys.take k) ∧ (0 < k → 65536 ^ (k - 1) ≤ Dg.vl 65536 xs + Dg.vl 65536 ys)

theorem rAdd_step {xs ys ps : List Nat} {k c : Nat} (h : RAdd xs ys ps k c) (na : Dg.Norm xs) (nb : Dg.Norm ys) (sa : Dg.Small 65536 xs) (sb : Dg.Small 65536 ys) (hk : k < xs.length ∨ k < ys.length ∨ 0 < c) (t : Nat) (ht : t = c + xs.getD k 0 + ys.getD k 0) :
    RAdd xs ys (ps ++ [t % 65536]) (k + 1) (t / 65536) := by
  obtain ⟨h1, h2, h3, h4, h5⟩ := h
  have hx := sa k
  have hy := sb k
  refine ⟨by simp [h1], small_snoc h2 (Nat.mod_lt _ (by omega)), by omega, ?_, fun _ => ?_⟩
  · rw [Dg.vl_append, vl_take_any, vl_take_any, h1]
    simp only [Dg.vl, Nat.mul_zero, Nat.add_zero]
    have e : 65536 ^ (k + 1) * (t / 65536) = 65536 ^ k * (65536 * (t / 65536)) := by rw [Nat.pow_succ, Nat.mul_assoc]
    have e2 : 65536 ^ k * t = 65536 ^ k * (t % 65536) + 65536 ^ k * (65536 * (t / 65536)) := by rw [← Nat.mul_add, Nat.mod_add_div]
    have e3 : 65536 ^ k * t = 65536 ^ k * c + 65536 ^ k * xs.getD k 0 + 65536 ^ k * ys.getD k 0 := by rw [ht, Nat.mul_add, Nat.mul_add]
    rw [e]
    omega
  · rw [Nat.add_sub_cancel]
    by_cases a : k < xs.length
    · have := vl_ge_pow 65536 xs na k a (by omega); omega
    · by_cases b : k < ys.length
      · have := vl_ge_pow 65536 ys nb k b (by omega); omega
      · rw [List.take_of_length_le (by omega), List.take_of_length_le (by omega)] at h4
        have : 65536 ^ k ≤ 65536 ^ k * c := Nat.le_mul_of_pos_right _ (by omega)
        omega

theorem rAdd_end {xs ys ps : List Nat} {k c : Nat} (h : RAdd xs ys ps k c) (hk : ¬ (k < xs.length ∨ k < ys.length ∨ 0 < c)) : ps = Dg.dg 65536 (Dg.vl 65536 xs + Dg.vl 65536 ys) := by
  obtain ⟨h1, h2, h3, h4, h5⟩ := h
  have hc : c = 0 := by omega
  subst hc
  rw [List.take_of_length_le (by omega), List.take_of_length_le (by omega)] at h4
  refine Dg.eq_dg 65536 (by omega) _ _ h2 (Dg.norm_of_ge 65536 ps h2 (fun hne => ?_)) (by omega)
  have := h5 (by rw [← h1]; exact List.length_pos_iff.2 hne)
  rw [h1]
  omega

/-- What Less keeps. -/
def RSub (xs ys ps : List Nat) (k c : Nat) : Prop :=
  ps.length = k ∧ Dg.Small 65536 ps ∧ c ≤ 1 ∧ Dg.vl 65536 (xs.take k) + 65536 ^ k * c = Dg.vl 65536 ps + Dg.vl 65536 (ys.take k)

theorem rSub_step {xs ys ps : List Nat} {k c d c' : Nat} (h : RSub xs ys ps k c) (hd : d < 65536) (hc : c' ≤ 1) (e : xs.getD k 0 + 65536 * c' = d + ys.getD k 0 + c) : RSub xs ys (ps ++ [d]) (k + 1) c' := by
  obtain ⟨h1, h2, h3, h4⟩ := h
  refine ⟨by simp [h1], small_snoc h2 hd, hc, ?_⟩
  rw [Dg.vl_append, vl_take_any, vl_take_any, h1]
  simp only [Dg.vl, Nat.mul_zero, Nat.add_zero]
  have e2 : 65536 ^ k * (xs.getD k 0 + 65536 * c') = 65536 ^ k * (d + ys.getD k 0 + c) := by rw [e]
  have e3 : 65536 ^ (k + 1) * c' = 65536 ^ k * (65536 * c') := by rw [Nat.pow_succ, Nat.mul_assoc]
  rw [Nat.mul_add, Nat.mul_add, Nat.mul_add] at e2
  rw [e3]
  omega

theorem rSub_end {xs ys ps : List Nat} {c : Nat} (h : RSub xs ys ps xs.length c) (hl : ys.length ≤ xs.length) (hv : Dg.vl 65536 ys ≤ Dg.vl 65536 xs) : Dg.vl 65536 ps = Dg.vl 65536 xs - Dg.vl 65536 ys := by
  obtain ⟨h1, h2, h3, h4⟩ := h
  rw [List.take_of_length_le (Nat.le_refl xs.length), List.take_of_length_le hl] at h4
  have hlt := Dg.vl_lt 65536 ps h2
  rw [h1] at hlt
  have hc : c = 0 := by
    rcases Nat.eq_zero_or_pos c with e | e
    · exact e
    · have : c = 1 := by omega
      subst this
      omega
  subst hc
  omega

end Go.Proofs.YtgbccbmflokooaaDoor

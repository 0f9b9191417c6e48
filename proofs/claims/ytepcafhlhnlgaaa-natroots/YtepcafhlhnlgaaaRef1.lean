/-
  Contracts of the reference's Of: digits to the base of 65536.
-/
import Derived.Test.YtepcafhlhnlgaaaSubN
import Derived.Deep.RegionLaw
import Derived.WalkSmall
namespace Go.Proofs.Ytepcafhlhnlgaaa
open Go.RowKit

/-- append to the call's own slice, as one step of a region that draws. -/
theorem step_append_own {P : Program} {ops : Array Oper} {o : Oper} {a : Act} {w : World} {K : Act → World → Prop} {Q : Exit → Act → World → Prop} {E : Prop}
    (hg : o.guard = none) (s x : Operand) (t : TypeId) (hop : o.op = Op.call { callee := Callee.builtin Builtin.append, args := #[s, x], argTypes := #[t, t] })
    (base : Nat) (e : TypeId) (i : TypeInfo) (z : Value) (size bytes : Nat) (ht : P.underlying t = some (.slice e)) (hi : P.info? e = some i) (hz : i.zero = some z)
    (hsize : i.size = size) (hby : i.bytes = bytes) (hzs : z.cells.size = size) (hsz : 0 < size)
    (v : Value) (n : Nat) (xs : List Value) (hs : a.eval s = v) (hown : w.ownsRow base e size v n xs)
    (ad : Addr) (m c : Nat) (news : List Value) (hx : a.eval x = .slice (some ad) m c) (hl : news.length = m * size) (hnews : ∀ j u, news[j]? = some u → w.cell? (ad.add j) = some u) (h1 : ∀ u ∈ news, u.oneCell' = true)
    (h63 : n + m ≤ maxLen) (hbytes : (n + m) * bytes ≤ 140737488355328) (hbase : base ≤ w.heap.size)
    (hK : ∀ v' w', w'.ownsRow base e size v' (n + m) (xs ++ news) → w.grownBy w' v.ownBlock → K (a.put o.dst v') w') :
    if Region.wanted o (yielded ops a.tmps) = true then Oper.wp P o a w K Q else E := by
  have hw : Region.wanted o (yielded ops a.tmps) = true := by simp [Region.wanted, hg]
  rw [if_pos hw]
  obtain ⟨v', w', hrun, r1, r2, _⟩ := run_append_own (P := P) w base t o.type e i z size bytes ht hi hz hsize hby hzs hsz v n xs hown ad m c news hl hnews h1 h63 hbytes hbase
  unfold Oper.wp
  simp [execOp, hop, resolve, invoke, builtin, hs, hx, hrun, Result.andThen]
  exact hK v' w' r1 r2

theorem Try.infoI64 : (Try.prog.info? 3).map (fun i => (i.zero, i.size, i.bytes)) = some (some (.int .i64 0), 1, 8) := by kernel_rfl

/-- The halves of each digit. -/
def halves (xs : List Nat) : List Nat := xs.flatMap (fun x => [x % 65536, x / 65536])

theorem halves_length (xs : List Nat) : (halves xs).length = 2 * xs.length := by
  induction xs with
  | nil => rfl
  | cons x xs ih => simp only [halves, List.flatMap_cons, List.length_append, List.length_cons, List.length_nil] at *; omega

theorem halves_vl (xs : List Nat) : Dg.vl 65536 (halves xs) = Dg.vl 4294967296 xs := by
  induction xs with
  | nil => rfl
  | cons x xs ih =>
    have : halves (x :: xs) = x % 65536 :: x / 65536 :: halves xs := rfl
    rw [this]
    simp only [Dg.vl, ih]
    omega

theorem halves_small (xs : List Nat) (h : Dg.Small 4294967296 xs) : Dg.Small 65536 (halves xs) := by
  induction xs with
  | nil => exact Dg.small_nil _ (by omega)
  | cons x xs ih =>
    have h1 := Dg.small_cons.1 h
    have : halves (x :: xs) = x % 65536 :: x / 65536 :: halves xs := rfl
    rw [this]
    exact Dg.small_cons.2 ⟨by omega, Dg.small_cons.2 ⟨by omega, ih h1.2⟩⟩

theorem halves_snoc (xs : List Nat) (k : Nat) (h : k < xs.length) : halves (xs.take (k + 1)) = halves (xs.take k) ++ [xs.getD k 0 % 65536, xs.getD k 0 / 65536] := by
  rw [Dg.take_succ' xs k h]
  simp [halves]

/-- The call answers a number of the reference. -/
def RNum (w : World) (n : Nat) (e : Ending) (w' : World) : Prop :=
  ∃ v, e = .returned v ∧ Rd w' .i64 v (Dg.dg 65536 n) ∧ Below w.heap.size w w'

theorem rd_trim {w : World} {k : IntKind} {ao : Option Addr} {len cap n cap' : Nat} {zs : List Nat} (B : Nat) (hB : 2 ≤ B) (h : Rd w k (.slice ao len cap) zs) (hs : Dg.Small B zs) (ht : TrimR zs n) (hc : n ≤ cap') (hc2 : cap' ≤ maxLen) :
    Rd w k (.slice ao n cap') (Dg.dg B (Dg.vl B zs)) := by
  have hl := rd_len h
  subst hl
  obtain ⟨h1, h2, h3⟩ := rd_open h
  rw [← Dg.trim_eq B hB zs n hs ht.1 ht.2.1 ht.2.2]
  have hn := ht.1
  have hl : (zs.take n).length = n := by simp; omega
  refine ⟨ao, cap', by rw [hl], by rw [hl]; exact hc, hc2, fun hp => ?_⟩
  rw [hl] at hp
  obtain ⟨b, off, ha, hcell⟩ := h3 (by omega)
  refine ⟨b, off, ha, fun i hi => ?_⟩
  rw [hl] at hi
  rw [hcell i (by omega), Dg.getD_take _ _ _ hi]

theorem of_append {w wr w3 : World} {x y : Nat} {es : List Nat} {lv v' : Value} (bel : Below w.heap.size w wr) (ownL : Own wr w.heap.size 3 .i64 lv es)
    (hown' : w3.ownsRow w.heap.size 3 1 v' (es.length + 2) ((es.map (fun n : Nat => Value.int .i64 (n : Int))) ++ [.int .i64 (x : Int), .int .i64 (y : Int)]))
    (hgrow : (wr.alloc (.cells #[.int .i64 (x : Int), .int .i64 (y : Int)] 3)).drew.grownBy w3 lv.ownBlock) :
    Own w3 w.heap.size 3 .i64 v' (es ++ [x, y]) ∧ Below w.heap.size w w3 := by
  have b1 : Below wr.heap.size wr (wr.alloc (.cells #[.int .i64 (x : Int), .int .i64 (y : Int)] 3)).drew := ((Below.refl _ _).alloc (Nat.le_refl _) _).drew
  refine ⟨?_, ?_⟩
  · unfold Own
    simpa using hown'
  · refine (below_trans bel b1).grown hgrow (Nat.le_trans bel.size b1.size) (fun k hk => ?_)
    exact (World.ownsRow.lt ownL k hk).1

set_option maxHeartbeats 1600000 in
theorem of_any (va : Value) (xs : List Nat) (w : World) (ha : Rd w .u32 va xs) (sa : Dg.Small 4294967296 xs) (hla : xs.length ≤ 1000000) :
    Calls Try.prog 25 #[va] w (RNum w (Dg.vl 4294967296 xs)) := by
  obtain ⟨ao, ca, rfl, -, -, hca⟩ := ha
  obtain ⟨i0, hi, hz0, hz1, hz2⟩ := info_parts Try.infoI64
  go_enter Try.func25, Try.ntmps25
  go_wp2
  go_loopw [3, 4] (fun ov iv wr => ∃ k : Nat, k ≤ xs.length ∧ iv = .int .i64 k ∧ Own wr w.heap.size 3 .i64 ov (halves (xs.take k)) ∧ Below w.heap.size w wr) (fun _ iv _ => xs.length - (intOf iv).toNat)
  case atStart => exact ⟨0, Nat.zero_le _, rfl, own_nil _ _ _ _, Below.refl _ _⟩
  case round =>
    obtain ⟨k, hk, rfl, own, bel⟩ := hrel
    by_cases hlt : k < xs.length
    · obtain ⟨b, off, rfl, hcell⟩ := hca (by omega)
      have hx := cell_later bel (hcell k hlt)
      have hxl := sa k
      have hsn := halves_snoc xs k hlt
      obtain ⟨x, ex⟩ : ∃ x, xs.getD k 0 = x := ⟨_, rfl⟩
      rw [ex] at hx hxl hsn
      have HS : Hid (halves (xs.take (k + 1)) = halves (xs.take k) ++ [x % 65536, x / 65536]) := hsn
      have hhl : (halves (xs.take k)).length ≤ 2000000 := by rw [halves_length]; simp; omega
      have hbs := bel.size
      obtain ⟨es, ees⟩ : ∃ es, halves (xs.take k) = es := ⟨_, rfl⟩
      rw [ees] at own hhl
      have HE : Hid (halves (xs.take k) = es) := ees
      clear ex hcell hca hsn ees
      obtain ⟨p, hp⟩ : ∃ p, x % 65536 = p := ⟨_, rfl⟩
      obtain ⟨q, hq⟩ : ∃ q, x / 65536 = q := ⟨_, rfl⟩
      have e1 : IntKind.i64.wrap (x : Int) = (x : Int) := IntWalk.i64_in _ ⟨by omega, by omega⟩
      have e2 : (x : Int).tmod 65536 = (p : Int) := by rw [Int.tmod_eq_emod_of_nonneg (by omega)]; omega
      have e3 : IntKind.i64.wrap ((x : Int).tdiv 65536) = (q : Int) := by rw [Int.tdiv_eq_ediv_of_nonneg (by omega), IntWalk.i64_in _ ⟨by omega, by omega⟩]; omega
      have e4 : IntKind.i64.wrap ((x : Int) / 65536) = (q : Int) := by rw [IntWalk.i64_in _ ⟨by omega, by omega⟩]; omega
      rw [hp, hq] at HS
      clear hp hq
      go_wp2
      go_region_law (refine step_append_own rfl (.tmp 11) (.tmp 24) 32 rfl w.heap.size 3 i0 (.int .i64 0) 1 8 Try.underlying32 hi hz0 hz1 hz2 rfl (by decide) _ es.length (es.map (fun n : Nat => Value.int .i64 (n : Int))) rfl (World.ownsRow.drew (World.ownsRow.alloc own _)) ⟨wr.heap.size, 0, none⟩ 2 2 [.int .i64 (p : Int), .int .i64 (q : Int)] rfl rfl (cell_two_new _ _ _ _) (by intro u hu; simp at hu; rcases hu with rfl | rfl <;> rfl) (by unfold maxLen; omega) (by omega) (by simp; omega) ?_; intro v' w3 hown' hgrow)
      all_goals
        have R := of_append bel own hown' hgrow
        clear hown' hgrow own e1 e2 e3 e4
        go_wp2
        go_roundw
        case rel =>
          have HS2 := HS.out
          rw [HE.out] at HS2
          exact ⟨k + 1, by omega, by go_num, by rw [HS2]; exact R.1, R.2⟩
        case measure => simp [intOf]; omega
    · have hke : k = xs.length := by omega
      subst hke
      have hshape := own.rd.shape
      rw [List.take_of_length_le (Nat.le_refl _)] at own
      obtain ⟨oo, oc, rfl⟩ := own.rd.shape
      go_wp2_with fail
      refine (reftrim_any _ _ _ _ _ own.rd).mono ?_
      rintro e w' ⟨n, rfl, hn, rfl⟩
      have hnl := hn.1
      rw [halves_length] at hnl
      have hr := rd_trim (cap' := n) 65536 (by omega) own.rd (halves_small xs sa) hn (Nat.le_refl _) (by unfold maxLen; omega)
      rw [halves_vl] at hr
      clear hshape hn
      go_wp2
      go_ret
      exact ⟨_, rfl, hr, bel⟩
end Go.Proofs.Ytepcafhlhnlgaaa

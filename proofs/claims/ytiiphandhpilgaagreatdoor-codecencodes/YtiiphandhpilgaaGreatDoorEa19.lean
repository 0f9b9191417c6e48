/-
  Texts laid together: IntoM, Into0, LessF.
-/
import Derived.Laws.OwnMore
import Derived.Test.YtiiphandhpilgaaGreatDoorEa01
import Derived.Test.YtiiphandhpilgaaGreatDoorEa18
import Derived.Test.YtiiphandhpilgaaGreatDoorEa05
namespace Go.Proofs.YtiiphandhpilgaaGreatDoor
theorem vl_head (B : Nat) (l : List Nat) : Dg.vl B l = l.getD 0 0 + B * Dg.vl B (l.drop 1) := by
  cases l with
  | nil => simp [Dg.vl]
  | cons d l => simp [Dg.vl]

theorem drop_head (l : List Nat) (k : Nat) : (l.drop k).getD 0 0 = l.getD k 0 := by
  simp [List.getD_eq_getElem?_getD]

theorem vl_drop_head (B : Nat) (l : List Nat) (k : Nat) : Dg.vl B (l.drop k) = l.getD k 0 + B * Dg.vl B (l.drop (k + 1)) := by
  rw [vl_head B (l.drop k), drop_head, List.drop_drop]

theorem vl_drop3 (B : Nat) (l : List Nat) (k : Nat) (h : l.length ≤ k + 3) : Dg.vl B (l.drop k) = l.getD k 0 + B * (l.getD (k + 1) 0 + B * l.getD (k + 2) 0) := by
  rw [vl_drop_head, vl_drop_head, vl_drop_head, List.drop_of_length_le (by omega)]
  simp [Dg.vl]

theorem vl_drop2 (B : Nat) (l : List Nat) (k : Nat) (h : l.length ≤ k + 2) : Dg.vl B (l.drop k) = l.getD k 0 + B * l.getD (k + 1) 0 := by
  rw [vl_drop_head, vl_drop_head, List.drop_of_length_le (by omega)]
  simp [Dg.vl]

theorem vl_take_any' (B : Nat) (l : List Nat) (k : Nat) : Dg.vl B l = Dg.vl B (l.take k) + B ^ k * Dg.vl B (l.drop k) := by
  by_cases h : k ≤ l.length
  · exact Dg.vl_take_drop B l k h
  · rw [List.take_of_length_le (by omega), List.drop_of_length_le (by omega)]
    simp [Dg.vl]

/-- The guess is at most too great. -/
theorem guess_ge (rs bs : List Nat) (n R b top under : Nat) (hn : 2 ≤ n) (hbl : bs.length = n) (sr : Dg.Small 65536 rs) (nb : Dg.Norm bs)
    (hR : Dg.vl 65536 rs = R) (hb : Dg.vl 65536 bs = b) (hrl : rs.length ≤ n + 1) (hlt : R < 65536 * b)
    (ht : top = 65536 * (65536 * rs.getD n 0 + rs.getD (n - 1) 0) + rs.getD (n - 2) 0) (hu : under = bs.getD (n - 1) 0 * 65536 + bs.getD (n - 2) 0) :
    R / b ≤ 65535 ∧ R / b ≤ top / (under + 1) + 1 := by
  obtain ⟨k, rfl⟩ : ∃ k, n = k + 2 := ⟨n - 2, by omega⟩
  have e1 : k + 2 - 1 = k + 1 := by omega
  have e2 : k + 2 - 2 = k := by omega
  rw [e1, e2] at ht hu
  have r1 := vl_take_any' 65536 rs k
  rw [vl_drop3 65536 rs k (by omega), hR] at r1
  have b1 := vl_take_any' 65536 bs k
  rw [vl_drop2 65536 bs k (by omega), hb] at b1
  have et : rs.getD k 0 + 65536 * (rs.getD (k + 1) 0 + 65536 * rs.getD (k + 2) 0) = top := by omega
  have eu : bs.getD k 0 + 65536 * bs.getD (k + 1) 0 = under := by omega
  rw [et] at r1
  rw [eu] at b1
  have rl : Dg.vl 65536 (rs.take k) < 65536 ^ k := Nat.lt_of_lt_of_le (Dg.vl_lt 65536 _ (Dg.small_take sr k (by omega))) (Nat.pow_le_pow_right (by omega) (List.length_take_le _ _))
  have hu1 : 65536 ≤ under := by
    have h0 := nb (by intro e; rw [e] at hbl; simp at hbl)
    rw [hbl, e1] at h0
    omega
  obtain ⟨P, hP⟩ : ∃ P, 65536 ^ k = P := ⟨_, rfl⟩
  rw [hP] at r1 b1 rl
  have hb0 : 0 < b := by
    rcases Nat.eq_zero_or_pos b with h | h
    · rw [h] at hlt; omega
    · exact h
  obtain ⟨Q, hQ⟩ : ∃ Q, R / b = Q := ⟨_, rfl⟩
  have q1 : Q ≤ 65535 := by
    rw [← hQ]
    have : R / b < 65536 := by rw [Nat.div_lt_iff_lt_mul hb0]; exact hlt
    omega
  have q2 : Q * b ≤ R := by rw [← hQ]; exact Nat.div_mul_le_self R b
  rw [hQ]
  refine ⟨q1, ?_⟩
  have q3 : Q * (P * under) ≤ Q * b := Nat.mul_le_mul_left _ (by omega)
  have q4 : P * (Q * under) < P * (top + 1) := by
    have : P * (Q * under) = Q * (P * under) := by rw [← Nat.mul_assoc, Nat.mul_comm P Q, Nat.mul_assoc]
    rw [this, Nat.mul_add]
    omega
  have q5 : Q * under < top + 1 := Nat.lt_of_mul_lt_mul_left q4
  rcases Nat.eq_zero_or_pos Q with h | h
  · rw [h]; exact Nat.zero_le _
  · obtain ⟨q, rfl⟩ : ∃ q, Q = q + 1 := ⟨Q - 1, by omega⟩
    have q6 : q * (under + 1) ≤ top := by
      rw [Nat.add_mul] at q5
      rw [Nat.mul_add]
      omega
    have := (Nat.le_div_iff_mul_le (by omega)).2 q6
    omega

/-- What the division keeps: k digits are still to be done; R is the rest. -/
def IntoI (xs cur : List Nat) (b k R : Nat) : Prop :=
  cur.length = xs.length ∧ Dg.Small 65536 cur ∧ (∀ j, j < k → cur.getD j 0 = 0) ∧ R < b ∧ Dg.vl 65536 (xs.drop k) = Dg.vl 65536 (cur.drop k) * b + R

theorem intoI_start (xs : List Nat) (b : Nat) (hb : 0 < b) : IntoI xs (List.replicate xs.length 0) b xs.length 0 := by
  refine ⟨by simp, Dg.small_replicate _ _ (by omega), fun j hj => by simp [List.getD_eq_getElem?_getD, hj], hb, ?_⟩
  simp [Dg.vl]

theorem intoI_set {xs cur : List Nat} {b k R N : Nat} (h : IntoI xs cur b (k + 1) R) (hk : k < xs.length) (hN : N = xs.getD k 0 + 65536 * R) (hb : 0 < b) (hx : xs.getD k 0 < 65536) :
    N < 65536 * b ∧ IntoI xs (cur.set k (N / b)) b k (N % b) := by
  obtain ⟨h1, h2, h3, h4, h5⟩ := h
  have hlt : N < 65536 * b := by
    have : 65536 * (R + 1) ≤ 65536 * b := Nat.mul_le_mul_left _ h4
    omega
  have hq : N / b < 65536 := by rw [Nat.div_lt_iff_lt_mul hb]; exact hlt
  refine ⟨hlt, by simpa using h1, Dg.small_set h2 _ _ hq, fun j hj => ?_, Nat.mod_lt _ hb, ?_⟩
  · rw [Dg.getD_set _ _ _ _ (by omega), if_neg (by omega)]
    exact h3 j (by omega)
  · rw [vl_drop_head 65536 xs k, vl_drop_head 65536 (cur.set k (N / b)) k, Dg.getD_set _ _ _ _ (by omega), if_pos rfl, List.drop_set_of_lt (by omega), h5]
    have := Nat.div_add_mod N b
    rw [Nat.add_mul, Nat.mul_comm (N / b) b, Nat.mul_assoc, Nat.mul_add]
    omega

theorem intoI_skip {xs cur : List Nat} {b k R N : Nat} (h : IntoI xs cur b (k + 1) R) (_hk : k < xs.length) (hN : N = xs.getD k 0 + 65536 * R) (hlt : N < b) : IntoI xs cur b k N := by
  obtain ⟨h1, h2, h3, h4, h5⟩ := h
  refine ⟨h1, h2, fun j hj => h3 j (by omega), hlt, ?_⟩
  rw [vl_drop_head 65536 xs k, vl_drop_head 65536 cur k, h3 k (by omega), h5, Nat.zero_add, Nat.mul_add, Nat.mul_assoc]
  omega

theorem intoI_end {xs cur : List Nat} {b R : Nat} (h : IntoI xs cur b 0 R) : Dg.vl 65536 xs / b = Dg.vl 65536 cur ∧ Dg.vl 65536 xs % b = R := by
  obtain ⟨h1, h2, h3, h4, h5⟩ := h
  simp only [List.drop_zero] at h5
  rw [h5, Nat.mul_comm]
  exact ⟨by rw [Nat.mul_add_div (by omega), Nat.div_eq_of_lt h4]; omega, by rw [Nat.mul_add_mod, Nat.mod_eq_of_lt h4]⟩

/-- The digit that is found is the quotient's. -/
theorem digit_found {b d N : Nat} (h1 : N / b ≤ d) (h2 : b * d ≤ N) (hb : 0 < b) : d = N / b := by
  have : d ≤ N / b := by rw [Nat.le_div_iff_mul_le hb, Nat.mul_comm]; exact h2
  omega

theorem digit_less {b d N : Nat} (h1 : N / b ≤ d) (h2 : ¬b * d ≤ N) (_hb : 0 < b) : N / b + 1 ≤ d := by
  rcases Nat.lt_or_ge (N / b) d with h | h
  · exact h
  · exfalso
    apply h2
    have e : d = N / b := by omega
    rw [e]
    exact Nat.mul_div_le N b
end Go.Proofs.YtiiphandhpilgaaGreatDoor
namespace Go.Proofs.YtiiphandhpilgaaGreatDoor
open Go.RowKit
/-- append(v, u...) where v is one's own and u is read: what comes is one's own. -/
theorem append_rd_run {P : Program} {w : World} {base e : Nat} {k : IntKind} {v u : Value} {xs ys : List Nat} (t ty : Nat) (i : TypeInfo) (bytes : Nat) (ht : P.underlying t = some (.slice e)) (hi : P.info? e = some i)
    (hz : i.zero = some (.int k 0)) (hsize : i.size = 1) (hby : i.bytes = bytes) (hb8 : bytes ≤ 8)
    (ho : Own w base e k v xs) (hr : Rd w k u ys) (hl : xs.length + ys.length ≤ 3000000) (hbase : base ≤ w.heap.size) :
    ∃ v' w', (Builtin.append_ #[t, t] ty #[v, u]).run P w = .ok v' w' ∧ Own w' base e k v' (xs ++ ys) ∧ w.grownBy w' v.ownBlock := by
  obtain ⟨ao, cap, rfl, h1, h2, h3⟩ := hr
  cases ao with
  | none =>
    have hy : ys.length = 0 := by
      rcases Nat.eq_zero_or_pos ys.length with e | e
      · exact e
      · obtain ⟨b, off, e2, _⟩ := h3 e; cases e2
    have hyn : ys = [] := List.length_eq_zero_iff.1 hy
    subst hyn
    refine ⟨v, w, ?_, by rw [List.append_nil]; exact ho, grown_refl _ _⟩
    rcases ho.2 with ⟨rfl, _⟩ | ⟨g, cap', cur, rfl, _, _, hnc, _⟩
    · simp [Builtin.append_, run_underlying ht, sizeOf, typeInfo, hi, Builtin.lenOf, Builtin.firstCells]
    · simp [Builtin.append_, run_underlying ht, sizeOf, typeInfo, hi, Builtin.lenOf, Builtin.firstCells, hnc, storeCells]
  | some ad =>
    obtain ⟨v', w', r1, r2, r3, _⟩ := run_append_own (P := P) (w := w) base t ty e i (.int k 0) 1 bytes ht hi hz hsize hby rfl (by omega) v xs.length _ ho ad ys.length cap (ys.map (fun n : Nat => Value.int k (n : Int))) (by simp) (fun j u hj => by
        have hjl : j < ys.length := by
          have := (List.getElem?_eq_some_iff.1 hj).1
          simpa using this
        obtain ⟨b, off, e2, hc⟩ := h3 (by omega)
        cases e2
        rw [addr_add, hc j hjl]
        rw [← hj, getD_map_cell k ys j hjl]) (fun u hu => by
        obtain ⟨n, _, rfl⟩ := List.mem_map.1 hu
        rfl) (by unfold maxLen; omega) (Nat.le_trans (Nat.mul_le_mul (show xs.length + ys.length ≤ 3000000 from hl) hb8) (by omega)) hbase
    exact ⟨v', w', r1, by unfold Own; rw [List.map_append, List.length_append]; exact r2, r3⟩

/-- append by its run. -/
theorem wpList_append_run {P : Program} {ops : Array Oper} {rest : List Oper} {o : Oper} {a : Act} {w : World} {Q : Exit → Act → World → Prop} (hgd : o.guard = none) (s x : Operand) (t : TypeId)
    (ho : o.op = .call { callee := .builtin .append, args := #[s, x], argTypes := #[t, t] }) (v u v' : Value) (w' : World) (hs : a.eval s = v) (hx : a.eval x = u)
    (hr : (Builtin.append_ #[t, t] o.type #[v, u]).run P w = .ok v' w') (h : wpList P ops Q rest (a.put o.dst v') w') : wpList P ops Q (o :: rest) a w := by
  refine wpList_plain hgd fun K hK => ?_
  unfold Oper.wp execOp
  simp only [ho, resolve, invoke, builtin, Sem.run_bind, Sem.run_pure, Result.andThen_ok, List.map_toArray, List.map_cons, List.map_nil, hs, hx, hr]
  exact hK _ _ h
end Go.Proofs.YtiiphandhpilgaaGreatDoor
namespace Go.Proofs.YtiiphandhpilgaaGreatDoor
open Go.RowKit
set_option maxRecDepth 100000 in
set_option maxHeartbeats 3200000 in
theorem refless_far (va vb : Value) (xs ys : List Nat) (w : World) (ha : Rd w .i64 va xs) (hb : Rd w .i64 vb ys) (sa : Dg.Small 65536 xs) (sb : Dg.Small 65536 ys) (hla : xs.length ≤ 2000000) (hlb : ys.length ≤ xs.length) (hv : Dg.vl 65536 ys ≤ Dg.vl 65536 xs) :
    Calls Tryz.prog 30 #[va, vb] w (RNumF w (Dg.vl 65536 xs - Dg.vl 65536 ys)) := by
  obtain ⟨ao, ca, rfl, -, -, hca⟩ := ha
  obtain ⟨bo, cb, rfl, -, -, hcb⟩ := hb
  obtain ⟨i0, hi, hz0, hz1, hz2⟩ := info_parts Tryz.infoI64
  have HV : Hid (Dg.vl 65536 ys ≤ Dg.vl 65536 xs) := hv
  clear hv
  go_enter Tryz.func30, Tryz.ntmps30
  go_wp2
  go_loopw [5, 6, 7] (fun ov cv iv wr => ∃ (k c : Nat) (ps : List Nat), k ≤ xs.length ∧ iv = .int .i64 k ∧ cv = .int .i64 c ∧ Own wr w.heap.size 3 .i64 ov ps ∧ RSub xs ys ps k c ∧ Below w.heap.size w wr) (fun _ _ iv _ => xs.length - (intOf iv).toNat)
  case atStart => exact ⟨0, 0, [], by omega, rfl, rfl, own_nil _ _ _ _, ⟨rfl, Dg.small_nil _ (by omega), by omega, by simp [Dg.vl]⟩, Below.refl _ _⟩
  case round =>
    obtain ⟨k, c, ps, hk, rfl, rfl, own, hI, bel⟩ := hrel
    have hcl := hI.2.2.1
    have hpl := hI.1
    have hbs := bel.size
    by_cases hlt : k < xs.length
    · obtain ⟨b, off, rfl, hcella⟩ := hca (by omega)
      have hcell := cell_later bel (hcella k hlt)
      have hxl := sa k
      have hyl := sb k
      have hy0 : ¬ k < ys.length → ys.getD k 0 = 0 := fun h => Dg.getD_of_le _ _ (by omega)
      have hst : ∀ d c', d < 65536 → c' ≤ 1 → xs.getD k 0 + 65536 * c' = d + ys.getD k 0 + c → RSub xs ys (ps ++ [d]) (k + 1) c' := fun d c' h1 h2 h3 => rSub_step hI h1 h2 h3
      have hcy : k < ys.length → ∃ b off, bo = some ⟨b, off, none⟩ ∧ wr.cell? ⟨b, off + k, none⟩ = some (.int .i64 ((ys.getD k 0 : Nat) : Int)) := fun h => by
        obtain ⟨b, off, e, hcell⟩ := hcb (by omega)
        exact ⟨b, off, e, cell_later bel (hcell k h)⟩
      obtain ⟨x, ex⟩ : ∃ x, xs.getD k 0 = x := ⟨_, rfl⟩
      obtain ⟨y, ey⟩ : ∃ y, ys.getD k 0 = y := ⟨_, rfl⟩
      rw [ex] at hxl hst hcell
      rw [ey] at hyl hy0 hst hcy
      have Hst : Hid (∀ d c', d < 65536 → c' ≤ 1 → x + 65536 * c' = d + y + c → RSub xs ys (ps ++ [d]) (k + 1) c') := hst
      have Hpl : Hid (ps.length = k) := hpl
      have hpl2 : ps.length ≤ 2000000 := by omega
      clear ex ey hca hcb hI hst hpl hcella
      have fin : ∀ (T : Int) (d : Nat), T = ((d : Nat) : Int) → ∀ v' w3, w3.ownsRow w.heap.size 3 1 v' (ps.length + 1) ((ps.map (fun n : Nat => Value.int .i64 (n : Int))) ++ [.int .i64 T]) → (wr.alloc (.cells #[.int .i64 T] 3)).grownBy w3 (Value.ownBlock u5) →
          Own w3 w.heap.size 3 .i64 v' (ps ++ [d]) ∧ Below w.heap.size w w3 := by
        intro T d hT v' w3 h1 h2
        rw [hT] at h1 h2
        exact own_append1 bel own h1 h2
      by_cases h2 : k < ys.length
      · obtain ⟨b2, off2, rfl, hcell2⟩ := hcy h2
        clear hcy hy0
        by_cases hneg : x < y + c
        · have hneg2 : ((x : Int) - (c : Int) - (y : Int)) < 0 := by omega
          go_wp2_with (at_builtin; refine wpList_append_own _ rfl _ _ 29 rfl w.heap.size 3 i0 (.int .i64 0) 1 8 Tryz.underlying29 hi hz0 hz1 hz2 rfl (by decide) _ _ _ rfl (World.ownsRow.alloc own _) ⟨wr.heap.size, 0, none⟩ 1 1 [.int .i64 ((x : Int) - (c : Int) - (y : Int) + 65536)] rfl rfl ?c1 ?c2 ?c3 ?c4 ?c5 ?_)
          try (case c1 => exact cell_one_new _ _ _)
          case c2 => first | rfl | (intro u hu; simp at hu; subst hu; rfl) | (simp; done) | (simp [Value.oneCell']; done) | (trace_state; fail)
          case c3 => unfold maxLen; omega
          case c4 => omega
          case c5 => first | omega | (simp; omega)
          intro v' w3 hown' hgrow _
          have R := fin _ (x + 65536 - y - c) (by omega) v' w3 hown' hgrow
          clear hown' hgrow own fin
          go_wp2
          go_roundw
          case rel => exact ⟨k + 1, 1, _, by omega, by go_num, by go_num, R.1, Hst.out _ _ (by omega) (by omega) (by omega), R.2⟩
          case measure => simp [intOf]; omega
        · have hneg2 : ¬ ((x : Int) - (c : Int) - (y : Int)) < 0 := by omega
          go_wp2_with (at_builtin; refine wpList_append_own _ rfl _ _ 29 rfl w.heap.size 3 i0 (.int .i64 0) 1 8 Tryz.underlying29 hi hz0 hz1 hz2 rfl (by decide) _ _ _ rfl (World.ownsRow.alloc own _) ⟨wr.heap.size, 0, none⟩ 1 1 [.int .i64 ((x : Int) - (c : Int) - (y : Int))] rfl rfl ?d1 ?d2 ?d3 ?d4 ?d5 ?_)
          try (case d1 => exact cell_one_new _ _ _)
          case d2 => first | rfl | (intro u hu; simp at hu; subst hu; rfl) | (simp; done) | (simp [Value.oneCell']; done) | (trace_state; fail)
          case d3 => unfold maxLen; omega
          case d4 => omega
          case d5 => first | omega | (simp; omega)
          intro v' w3 hown' hgrow _
          have R := fin _ (x - y - c) (by omega) v' w3 hown' hgrow
          clear hown' hgrow own fin
          go_wp2
          go_roundw
          case rel => exact ⟨k + 1, 0, _, by omega, by go_num, by go_num, R.1, Hst.out _ _ (by omega) (by omega) (by omega), R.2⟩
          case measure => simp [intOf]; omega
      · have hy := hy0 h2
        subst hy
        clear hcy hy0
        by_cases hneg : x < c
        · have hneg2 : ((x : Int) - (c : Int)) < 0 := by omega
          go_wp2_with (at_builtin; refine wpList_append_own _ rfl _ _ 29 rfl w.heap.size 3 i0 (.int .i64 0) 1 8 Tryz.underlying29 hi hz0 hz1 hz2 rfl (by decide) _ _ _ rfl (World.ownsRow.alloc own _) ⟨wr.heap.size, 0, none⟩ 1 1 [.int .i64 ((x : Int) - (c : Int) + 65536)] rfl rfl ?e1 ?e2 ?e3 ?e4 ?e5 ?_)
          try (case e1 => exact cell_one_new _ _ _)
          case e2 => first | rfl | (intro u hu; simp at hu; subst hu; rfl) | (simp; done) | (simp [Value.oneCell']; done) | (trace_state; fail)
          case e3 => unfold maxLen; omega
          case e4 => omega
          case e5 => first | omega | (simp; omega)
          intro v' w3 hown' hgrow _
          have R := fin _ (x + 65536 - c) (by omega) v' w3 hown' hgrow
          clear hown' hgrow own fin
          go_wp2
          go_roundw
          case rel => exact ⟨k + 1, 1, _, by omega, by go_num, by go_num, R.1, Hst.out _ _ (by omega) (by omega) (by omega), R.2⟩
          case measure => simp [intOf]; omega
        · have hneg2 : ¬ ((x : Int) - (c : Int)) < 0 := by omega
          go_wp2_with (at_builtin; refine wpList_append_own _ rfl _ _ 29 rfl w.heap.size 3 i0 (.int .i64 0) 1 8 Tryz.underlying29 hi hz0 hz1 hz2 rfl (by decide) _ _ _ rfl (World.ownsRow.alloc own _) ⟨wr.heap.size, 0, none⟩ 1 1 [.int .i64 ((x : Int) - (c : Int))] rfl rfl ?f1 ?f2 ?f3 ?f4 ?f5 ?_)
          try (case f1 => exact cell_one_new _ _ _)
          case f2 => first | rfl | (intro u hu; simp at hu; subst hu; rfl) | (simp; done) | (simp [Value.oneCell']; done) | (trace_state; fail)
          case f3 => unfold maxLen; omega
          case f4 => omega
          case f5 => first | omega | (simp; omega)
          intro v' w3 hown' hgrow _
          have R := fin _ (x - c) (by omega) v' w3 hown' hgrow
          clear hown' hgrow own fin
          go_wp2
          go_roundw
          case rel => exact ⟨k + 1, 0, _, by omega, by go_num, by go_num, R.1, Hst.out _ _ (by omega) (by omega) (by omega), R.2⟩
          case measure => simp [intOf]; omega
    · have hke : k = xs.length := by omega
      subst hke
      have hen := rSub_end hI hlb HV.out
      have hps := hI.2.1
      have hpl2 : ps.length ≤ 2000000 := by omega
      clear hpl
      obtain ⟨oo, oc, rfl⟩ := own.rd.shape
      go_wp2_with fail
      refine (reftrim_any _ _ _ _ _ own.rd).mono ?_
      rintro e w' ⟨n, rfl, hn, rfl⟩
      have hnl := hn.1
      have hr := rd_trim (cap' := n) 65536 (by omega) own.rd hps hn (Nat.le_refl _) (by unfold maxLen; omega)
      rw [hen] at hr
      clear hn hen
      go_wp2
      go_ret
      exact ⟨_, rfl, hr, far_trim (own_far own) n n, bel⟩
end Go.Proofs.YtiiphandhpilgaaGreatDoor

/-
  Texts laid together: Ef1, Ce3.
-/
import Derived.Deep.CutBlock
import Derived.Test.YtiiphandhpilgaaGreatDoorNb38
set_option maxRecDepth 100000
namespace Go.Proofs.YtiiphandhpilgaaGreatDoor
open Go.RowKit
def EncS (w : World) (bf : Nat) (fl : List Value) (E F : Nat) (ng : Bool) (s7 s8 s9 : Value) (wx : World) : Prop :=
 s7 = .int .i64 (E : Int) ∧ s9 = .bool ng ∧ Rd wx .i64 s8 (Dg.dg 65536 F) ∧ LocE wx bf 44 fl ∧ Below w.heap.size w wx
def EncT (w : World) (bf : Nat) (fl : List Value) (bs : List Bool) (F : Nat) (s8 s14 : Value) (wx : World) : Prop :=
 OwnB wx w.heap.size s14 bs ∧ Rd wx .i64 s8 (Dg.dg 65536 F) ∧ LocE wx bf 44 fl ∧ Below w.heap.size w wx
theorem rd_zero (w : World) : Rd w .i64 (.slice none 0 0) (Dg.dg 65536 0) := by
 rw [show Dg.dg 65536 0 = [] from (Dg.dg_nil_iff 65536 0 (by omega)).2 rfl]
 exact ⟨none, 0, rfl, Nat.le_refl _, by unfold maxLen; omega, fun h => absurd h (by simp)⟩
theorem bools_more {w w0 : World} {base g m : Nat} {v : Value} {xs ys : List Bool} (t ty : Nat) (i : TypeInfo) (ht : Tryz.prog.underlying t = some (.slice 4)) (hi : Tryz.prog.info? 4 = some i)
  (hz : i.zero = some (.bool false)) (hsize : i.size = 1) (hby : i.bytes = 1)
  (ho : OwnB w base v xs) (hm : m = ys.length) (hy : OwnB w w0.heap.size (.slice (some ⟨g, 0, none⟩) m m) ys) (hl : xs.length + m ≤ 1000) (hbase : base ≤ w.heap.size) :
  ∃ v' w', (Builtin.append_ #[t, t] ty #[v, .slice (some ⟨g, 0, none⟩) m m]).run Tryz.prog w = .ok v' w' ∧ OwnB w' base v' (xs ++ ys) ∧ w.grownBy w' v.ownBlock := by
 subst hm
 obtain ⟨v', w', r1, r2, r3, _⟩ := run_append_own (P := Tryz.prog) (w := w) base t ty 4 i (.bool false) 1 1 ht hi hz hsize hby rfl (by omega) v xs.length _ ho ⟨g, 0, none⟩ ys.length ys.length (ys.map Value.bool) (by simp) (fun j u hj => by
   have hjl : j < ys.length := by
    have := (List.getElem?_eq_some_iff.1 hj).1
    simpa using this
   rw [addr_add, Nat.zero_add, hy.cell rfl j hjl]
   rw [List.getElem?_map, List.getElem?_eq_getElem hjl] at hj
   rw [← hj]
   simp [List.getD_eq_getElem?_getD, hjl]) (fun u hu => by
   obtain ⟨n, _, rfl⟩ := List.mem_map.1 hu
   rfl) (by unfold maxLen; omega) (by omega) hbase
 exact ⟨v', w', r1, by unfold OwnB; rw [List.map_append, List.length_append]; exact r2, r3⟩
theorem step_run_append {P : Program} {ops : Array Oper} {o : Oper} {a : Act} {w : World} {K : Act → World → Prop} {Q : Exit → Act → World → Prop} {E : Prop}
  (hg : o.guard = none) (s x : Operand) (t : TypeId) (hop : o.op = Op.call { callee := Callee.builtin Builtin.append, args := #[s, x], argTypes := #[t, t] })
  (v u v' : Value) (w' : World) (hs : a.eval s = v) (hx : a.eval x = u) (hr : (Builtin.append_ #[t, t] o.type #[v, u]).run P w = .ok v' w') (hK : K (a.put o.dst v') w') :
  if Region.wanted o (yielded ops a.tmps) = true then Oper.wp P o a w K Q else E := by
 have hw : Region.wanted o (yielded ops a.tmps) = true := by simp [Region.wanted, hg]
 rw [if_pos hw]
 unfold Oper.wp
 simp [execOp, hop, resolve, invoke, builtin, hs, hx, hr, Result.andThen]
 exact hK
theorem ownB_at {w : World} {base : Nat} {v : Value} {bs : List Bool} (h : OwnB w base v bs) (hp : 0 < bs.length) : ∃ g cap, v = .slice (some ⟨g, 0, none⟩) bs.length cap ∧ bs.length ≤ cap ∧ cap ≤ maxLen ∧ base ≤ g ∧ ∀ i, i < bs.length → w.cell? ⟨g, i, none⟩ = some (.bool (bs.getD i false)) := by
 obtain ⟨hl, h2⟩ := h
 rcases h2 with ⟨hv, hn⟩ | ⟨g, cap, cur, hv, hb, hh, hnc, hcm, hcs, htake⟩
 ·omega
 ·refine ⟨g, cap, hv, hnc, hcm, hb, fun i hi' => ?_⟩
  have hc := World.ownsRow.cellAt (w := w) (base := base) (e := 4) (size := 1) (g := g) (n := bs.length) (cap := cap) (xs := bs.map Value.bool) ⟨hl, .inr ⟨g, cap, cur, rfl, hb, hh, hnc, hcm, hcs, htake⟩⟩ i (by omega)
  rw [hc, List.getElem?_map, List.getElem?_eq_getElem hi']
  simp [List.getD_eq_getElem?_getD, hi']
theorem ownB_new (w : World) (b : Bool) : OwnB (w.alloc (.cells #[.bool b] 4)) w.heap.size (.slice (some ⟨w.heap.size, 0, none⟩) 1 1) [b] :=
 World.ownsRow_lit (e := 4) (size := 1) (base := w.heap.size) w #[.bool b] 1 (Nat.le_refl _) (by unfold maxLen; omega) rfl
theorem OwnB.wider {w : World} {base b' : Nat} {v : Value} {bs : List Bool} (h : OwnB w base v bs) (hb : b' ≤ base) : OwnB w b' v bs := by
 obtain ⟨hl, h2⟩ := h
 refine ⟨hl, ?_⟩
 rcases h2 with h2 | ⟨g, cap, cur, hv, hbg, r⟩
 ·exact .inl h2
 ·exact .inr ⟨g, cap, cur, hv, Nat.le_trans hb hbg, r⟩
set_option maxHeartbeats 12800000 in
theorem encodeOf_W (n : Int) (sz ex fr nb : Nat) (R D L G fam wd : Int) (gr : Bool) (c : Int) (g ts : Bool) (so : Option Addr) (tn sc : Nat) (te : Int) (E F : Nat) (ng : Bool) (st : ByteArray) (pa pb pc pd pl : Nat) (bl k kk a1 a2 dl : Int) (d e0 : Nat) (w : World)
  (hex : ex ≤ 15) (hex1 : 1 ≤ ex) (hfr : fr ≤ 64) (hfr1 : 1 ≤ fr) (hnb : 1 + ex + fr = nb) (hE : E < 65536) (hD1 : 1 ≤ D) (hD2 : D ≤ 64) (_hne : (wd == 0) = false) (hne2 : ¬wd = 0)
  (HU : c = 2 → IntKind.i64.wrap (te + bl) = te + bl ∧ IntKind.i64.wrap (te + bl - 1) = te + bl - 1 ∧ IntKind.i64.wrap (te + bl - 1 + 80000) = te + bl - 1 + 80000 ∧ (te + bl - 1 + 80000).tdiv wd = a1 ∧ (80000 : Int).tdiv wd = a2 ∧ IntKind.i64.wrap a1 = a1 ∧ IntKind.i64.wrap a2 = a2 ∧ IntKind.i64.wrap (a1 - a2) = a1 - a2 ∧ IntKind.i64.wrap (a1 - a2 - D) = a1 - a2 - D ∧ IntKind.i64.wrap (a1 - a2 - D + 1) = kk ∧ max L kk = k ∧ IntKind.i64.wrap (wd * k) = wd * k ∧ IntKind.i64.wrap (te - wd * k) = te - wd * k ∧ IntKind.i64.wrap (k - L) = (e0 : Int) ∧ e0 < 65536)
  (HF : ∀ w1, Calls Tryz.prog 12 #[.int .i64 n] w1 fun z w' => z = .returned (.tuple #[.agg #[.int .i64 (sz : Int), .int .i64 (ex : Int), .int .i64 (fr : Int), .int .i64 R, .int .i64 D, .int .i64 L, .int .i64 G, .bool gr, .int .i64 fam], .bool true]) ∧ Below w1.heap.size w1 w')
  (HWI : ∀ w1, Calls Tryz.prog 27 #[.agg #[.int .i64 R, .int .i64 D, .int .i64 L, .int .i64 G, .bool gr]] w1 fun z w' => z = .returned (.int .i64 wd) ∧ Below w1.heap.size w1 w')
  (HPA : ∀ w1, Calls Tryz.prog 31 #[.int .i64 63] w1 (RNum w1 pa))
  (HPB : ∀ w1, Calls Tryz.prog 31 #[.int .i64 62] w1 (RNum w1 pb))
  (HPC : ∀ v u w1, Rd w1 .i64 v (Dg.dg 65536 pa) → Rd w1 .i64 u (Dg.dg 65536 pb) → Calls Tryz.prog 32 #[v, u] w1 (RNum w1 pc))
  (HPD : ∀ w1, Calls Tryz.prog 31 #[.int .i64 ((fr : Int) - 1)] w1 (RNum w1 pd))
  (HPL : ∀ w1, Calls Tryz.prog 31 #[.int .i64 (D - 1)] w1 (RNum w1 pl))
  (HLN : c = 2 → ∀ w1, Below w.heap.size w w1 → Calls Tryz.prog 28 #[.slice so (Dg.dg 65536 tn).length sc] w1 fun z w' => z = .returned (.int .i64 bl) ∧ Below w1.heap.size w1 w')
  (HFL : c = 2 → ∀ w1, Below w.heap.size w w1 → Calls Tryz.prog 29 #[.agg #[.bool false, .slice so (Dg.dg 65536 tn).length sc, .int .i64 (te - wd * k)]] w1 (RNum w1 d))
  (HLD : ∀ v w1, Rd w1 .i64 v (Dg.dg 65536 d) → Calls Tryz.prog 28 #[v] w1 fun z w' => z = .returned (.int .i64 dl) ∧ Below w1.heap.size w1 w')
  (HLS : dl = D → ∀ v u w1, Rd w1 .i64 v (Dg.dg 65536 d) → Rd w1 .i64 u (Dg.dg 65536 pl) → Calls Tryz.prog 30 #[v, u] w1 (RNum w1 (d - pl)))
  (HFR : ∀ w1, Calls Tryz.prog 34 #[.int .i64 (E : Int)] w1 (RNum w1 E))
  (HBE : ∀ v w1, Rd w1 .i64 v (Dg.dg 65536 E) → Calls Tryz.prog 33 #[v, .int .i64 (ex : Int)] w1 fun z w' => ∃ gg, z = .returned (.slice (some ⟨gg, 0, none⟩) ex ex) ∧ OwnB w' w1.heap.size (.slice (some ⟨gg, 0, none⟩) ex ex) (bnL E ex) ∧ Below w1.heap.size w1 w')
  (HBF : ∀ v w1, Rd w1 .i64 v (Dg.dg 65536 F) → Calls Tryz.prog 33 #[v, .int .i64 (fr : Int)] w1 fun z w' => ∃ gg, z = .returned (.slice (some ⟨gg, 0, none⟩) fr fr) ∧ OwnB w' w1.heap.size (.slice (some ⟨gg, 0, none⟩) fr fr) (bnL F fr) ∧ Below w1.heap.size w1 w')
  (HPT : ∀ gg cap w1, (∀ i, i < nb → w1.cell? ⟨gg, i, none⟩ = some (.bool (((ng :: bnL E ex) ++ bnL F fr).getD i false))) → Calls Tryz.prog 35 #[.int .i64 n, .slice (some ⟨gg, 0, none⟩) nb cap] w1 fun z w' => z = .returned (.string st) ∧ Below w1.heap.size w1 w')
  (HC : (c = 1 ∧ E = 0 ∧ F = 0 ∧ ng = g) ∨ (c = 5 ∧ E = 0 ∧ F = 0 ∧ ng = true) ∨ (c = 3 ∧ n = 3 ∧ E + 1 = 2 ^ ex ∧ F = pa ∧ ng = g) ∨ (c = 3 ∧ n ≠ 3 ∧ E + 1 = 2 ^ ex ∧ F = 0 ∧ ng = g) ∨ (c = 4 ∧ n = 3 ∧ E + 1 = 2 ^ ex ∧ F = pc ∧ ng = g) ∨ (c = 4 ∧ n ≠ 3 ∧ E + 1 = 2 ^ ex ∧ F = pd ∧ ng = g) ∨ (c = 2 ∧ ng = g ∧ ((fam = 2 ∧ E = e0 ∧ F = d) ∨ (fam ≠ 2 ∧ dl ≠ D ∧ E = e0 ∧ F = d) ∨ (fam ≠ 2 ∧ dl = D ∧ n = 3 ∧ E = e0 + 1 ∧ F = d) ∨ (fam ≠ 2 ∧ dl = D ∧ n ≠ 3 ∧ E = e0 + 1 ∧ F = d - pl)))) :
  Calls Tryz.prog 8 #[.int .i64 n, .agg #[.int .i64 c, .bool g, .bool ts, .slice so (Dg.dg 65536 tn).length sc, .int .i64 te]] w fun z w' => z = .returned (.string st) ∧ Below w.heap.size w w' := by
 replace HF : Hid _ := HF
 replace HWI : Hid _ := HWI
 replace HPA : Hid _ := HPA
 replace HPB : Hid _ := HPB
 replace HPC : Hid _ := HPC
 replace HPD : Hid _ := HPD
 replace HPL : Hid _ := HPL
 replace HLN : Hid _ := HLN
 replace HFL : Hid _ := HFL
 replace HLD : Hid _ := HLD
 replace HLS : Hid _ := HLS
 replace HFR : Hid _ := HFR
 replace HBE : Hid _ := HBE
 replace HBF : Hid _ := HBF
 replace HPT : Hid _ := HPT
 replace HC : Hid _ := HC
 replace HU : Hid _ := HU
 have b0 := below_alloc w (.cells #[.int .i64 c, .bool g, .bool ts, .slice so (Dg.dg 65536 tn).length sc, .int .i64 te] 33)
 have q0 := locE_new w [.int .i64 c, .bool g, .bool ts, .slice so (Dg.dg 65536 tn).length sc, .int .i64 te] 33
 go_enter Tryz.func8, Tryz.ntmps8
 go_wp2_with fail
 refine (HF.out _).mono ?_
 rintro z w1 ⟨rfl, b1⟩
 have ba := below_alloc w1 (.cells #[.int .i64 (sz : Int), .int .i64 (ex : Int), .int .i64 (fr : Int), .int .i64 R, .int .i64 D, .int .i64 L, .int .i64 G, .bool gr, .int .i64 fam] 44)
 have f2 := locE_new w1 [.int .i64 (sz : Int), .int .i64 (ex : Int), .int .i64 (fr : Int), .int .i64 R, .int .i64 D, .int .i64 L, .int .i64 G, .bool gr, .int .i64 fam] 44
 have q2 := (q0.later b1).later ba
 have b02 := below_trans (below_trans b0 b1) ba
 clear b0 q0 b1 ba HF
 go_upto_region 2 with fail
 generalize w1.alloc (.cells #[.int .i64 (sz : Int), .int .i64 (ex : Int), .int .i64 (fr : Int), .int .i64 R, .int .i64 D, .int .i64 L, .int .i64 G, .bool gr, .int .i64 fam] 44) = w2 at f2 q2 b02 ⊢
 generalize w1.heap.size = bf at f2 ⊢
 obtain ⟨y0, y1, y2, y3, y4⟩ := q2.cs5
 obtain ⟨fx0, fx1, fx2, fx3, fx4, fx5, fx6, fx7, fx8⟩ := f2.cs9
 go_wp2
 go_loop [10, 11] (fun lv iv => ∃ j x : Nat, Hid (x = 2 ^ j) ∧ j ≤ ex ∧ x ≤ 32768 ∧ lv = .int .i64 (x : Int) ∧ iv = .int .i64 (j : Int)) (fun _ iv => ex - (intOf iv).toNat)
 case atStart => exact ⟨0, 1, rfl, by omega, by omega, rfl, rfl⟩
 case round =>
  obtain ⟨j, x, HX, hj, hx, rfl, rfl⟩ := hrel
  by_cases hlt : j < ex
  ·have hx2 := HX.out
   have hp : 2 * x = 2 ^ (j + 1) := by rw [Nat.pow_succ, hx2]; omega
   have hp2 : (2 : Nat) ^ (j + 1) ≤ 2 ^ 15 := Nat.pow_le_pow_right (by omega) (by omega)
   have HY : Hid (_ ∧ _) := ⟨hp, hp2⟩
   clear hx2 hp hp2
   go_wp2
   obtain ⟨hp, hp2⟩ := HY.out
   exact ⟨⟨j + 1, 2 * x, hp, by omega, by omega, by go_num, by go_num⟩, by simp only [intOf]; omega⟩
  ·have hx2 := HX.out
   rw [show j = ex from by omega] at hx2
   obtain ⟨x1, hx1⟩ : ∃ y, x = y + 1 := ⟨x - 1, by have : 0 < 2 ^ ex := Nat.pow_pos (by omega); omega⟩
   have HX1 : Hid (x1 + 1 = 2 ^ ex) := by rw [← hx1]; exact hx2
   have hw1 : IntKind.i64.wrap ((x : Int) - 1) = (x1 : Int) := by rw [show (x : Int) - 1 = (x1 : Int) from by omega]; exact IntWalk.i64_in _ ⟨by omega, by omega⟩
   have hdI : ¬ ((j : Int) < (ex : Int)) := by omega
   clear hx2 hx1 HX
   go_upto_block 2 with fail
   go_cut [7, 8, 9] (fun s7 s8 s9 wx => EncS w bf [.int .i64 (sz : Int), .int .i64 (ex : Int), .int .i64 (fr : Int), .int .i64 R, .int .i64 D, .int .i64 L, .int .i64 G, .bool gr, .int .i64 fam] E F ng s7 s8 s9 wx)
   case first =>
    rcases HC.out with h | h | h | h | h | h | h
    ·obtain ⟨rfl, rfl, rfl, rfl⟩ := h
     clear HC
     have rz := rd_zero w2
     go_wp2_with fail
     go_meet
     exact ⟨rfl, rfl, rz, f2, b02⟩
    ·obtain ⟨rfl, rfl, rfl, rfl⟩ := h
     clear HC
     have rz := rd_zero w2
     go_wp2_with fail
     go_meet
     exact ⟨rfl, rfl, rz, f2, b02⟩
    ·obtain ⟨rfl, rfl, hEE, rfl, rfl⟩ := h
     have hx1 : x1 = E := by have := HX1.out; omega
     subst hx1
     clear HC hEE
     go_wp2_with fail
     refine (HPA.out _).mono ?_
     rintro z w3 ⟨v3, rfl, r3, b3⟩
     have f3 := f2.later b3
     have b03 := below_trans b02 b3
     clear f2 q2 b02 b3 y0 y1 y2 y3 y4 fx0 fx1 fx2 fx3 fx4 fx5 fx6 fx7 fx8
     go_wp2_with fail
     go_meet
     exact ⟨rfl, rfl, r3, f3, b03⟩
    ·obtain ⟨rfl, hn, hEE, rfl, rfl⟩ := h
     have _hn3 : (n == 3) = false := (by simpa using hn); have _hn4 : (n != 3) = true := (by simpa using hn)
     have hx1 : x1 = E := by have := HX1.out; omega
     subst hx1
     clear HC hEE
     have rz := rd_zero w2
     go_wp2_with fail
     go_meet
     exact ⟨rfl, rfl, rz, f2, b02⟩
    ·obtain ⟨rfl, rfl, hEE, rfl, rfl⟩ := h
     have hx1 : x1 = E := by have := HX1.out; omega
     subst hx1
     clear HC hEE
     have hfw : IntKind.i64.wrap ((fr : Int) - 1) = (fr : Int) - 1 := IntWalk.i64_in _ ⟨by omega, by omega⟩
     go_wp2_with fail
     refine (HPD.out _).mono ?_
     rintro z w3 ⟨v3, rfl, r3, b3⟩
     have f3 := f2.later b3
     have b03 := below_trans b02 b3
     clear f2 q2 b02 b3 y0 y1 y2 y3 y4 fx0 fx1 fx2 fx3 fx4 fx5 fx6 fx7 fx8 r3
     go_wp2_with fail
     refine (HPA.out _).mono ?_
     rintro z w4 ⟨v4, rfl, r4, b4⟩
     have f4 := f3.later b4
     have b04 := below_trans b03 b4
     clear f3 b03 b4
     go_wp2_with fail
     refine (HPB.out _).mono ?_
     rintro z w5 ⟨v5, rfl, r5, b5⟩
     have f5 := f4.later b5
     have b05 := below_trans b04 b5
     have r45 := r4.later b5
     clear f4 b04 b5 r4
     go_wp2_with fail
     refine (HPC.out _ _ _ r45 r5).mono ?_
     rintro z w6 ⟨v6, rfl, r6, b6⟩
     have f6 := f5.later b6
     have b06 := below_trans b05 b6
     clear f5 b05 b6 r45 r5
     go_wp2_with fail
     go_meet
     exact ⟨rfl, rfl, r6, f6, b06⟩
    ·obtain ⟨rfl, hn, hEE, rfl, rfl⟩ := h
     have _hn3 : (n == 3) = false := (by simpa using hn); have _hn4 : (n != 3) = true := (by simpa using hn)
     have hx1 : x1 = E := by have := HX1.out; omega
     subst hx1
     clear HC hEE
     have hfw : IntKind.i64.wrap ((fr : Int) - 1) = (fr : Int) - 1 := IntWalk.i64_in _ ⟨by omega, by omega⟩
     go_wp2_with fail
     refine (HPD.out _).mono ?_
     rintro z w3 ⟨v3, rfl, r3, b3⟩
     have f3 := f2.later b3
     have b03 := below_trans b02 b3
     clear f2 q2 b02 b3 y0 y1 y2 y3 y4 fx0 fx1 fx2 fx3 fx4 fx5 fx6 fx7 fx8
     go_wp2_with fail
     go_meet
     exact ⟨rfl, rfl, r3, f3, b03⟩
    ·obtain ⟨rfl, rfl, h⟩ := h
     have HLN2 : Hid _ := HLN.out rfl
     have HFL2 : Hid _ := HFL.out rfl
     obtain ⟨U4, U5, U6, Q1, Q2, U7, U8, U9, UA, UB, M, UC, UD, UE, UF⟩ := HU.out rfl
     have HH : Hid _ := h
     clear HC h HU HLN HFL
     go_wp2_with fail
     refine (HWI.out _).mono ?_
     rintro z w3 ⟨rfl, b3⟩
     have f3 := f2.later b3
     have q3 := q2.later b3
     have b03 := below_trans b02 b3
     clear f2 q2 b02 b3 y0 y1 y2 y3 y4 fx0 fx1 fx2 fx3 fx4 fx5 fx6 fx7 fx8
     have bd : Below w3.heap.size w3 w3.drew := (Below.refl _ _).drew
     have f3d := f3.later bd
     have q3d := q3.later bd
     have b3d := below_trans b03 bd
     have xd := f3d.cell 4 rfl
     have xl := f3d.cell 5 rfl
     have zm := q3d.cell 3 rfl
     have ze := q3d.cell 4 rfl
     go_wp2_with fail
     go_region_held3 (fun wq => wq.cell? ⟨w.heap.size, 3, none⟩ = some (.slice so (Dg.dg 65536 tn).length sc) ∧ wq.cell? ⟨w.heap.size, 4, none⟩ = some (.int .i64 te) ∧ wq.cell? ⟨bf, 4, none⟩ = some (.int .i64 D) ∧ wq.cell? ⟨bf, 5, none⟩ = some (.int .i64 L)) (go_keep) (first
      | (go_at_call 28; have hgd := b3d; clear hgd; refine (HLN2.out _ b3d).mono ?_; rintro z wa ⟨rfl, bb⟩; have b0a := below_trans b3d bb; have fa := f3d.later bb; have qa := q3d.later bb; have ya3 := qa.cell 3 rfl; have ya4 := qa.cell 4 rfl; have xa4 := fa.cell 4 rfl; have xa5 := fa.cell 5 rfl; clear b3d))
     clear xd xl zm ze f3 q3 b03 f3d q3d bb ya3 ya4 xa4 xa5
     have ya3 := qa.cell 3 rfl
     have ya4 := qa.cell 4 rfl
     go_wp2_with fail
     refine (HFL2.out _ b0a).mono ?_
     rintro z w4 ⟨v4, rfl, r4, b4⟩
     have f4 := fa.later b4
     have b04 := below_trans b0a b4
     clear fa qa b0a b4 ya3 ya4
     have x5 := f4.cell 5 rfl
     have x8 := f4.cell 8 rfl
     have x4 := f4.cell 4 rfl
     rcases HH.out with h | h | h | h
     ·obtain ⟨rfl, rfl, rfl⟩ := h
      clear HH
      go_wp2_with fail
      go_meet
      exact ⟨rfl, rfl, r4, f4, b04⟩
     ·obtain ⟨hf, hd, rfl, rfl⟩ := h
      have hf1 : (fam == 2) = false := by simpa using hf
      have hf2 : (fam != 2) = true := by simpa using hf
      have hd1 : (dl == D) = false := by simpa using hd
      clear HH
      have bd : Below w4.heap.size w4 w4.drew := (Below.refl _ _).drew
      have f4d := f4.later bd
      have b4d := below_trans b04 bd
      have r4d := r4.later bd
      have xe := f4d.cell 4 rfl
      go_wp2_with fail
      go_region_held3 (fun wq => wq.cell? ⟨bf, 4, none⟩ = some (.int .i64 D)) (go_keep) (first
       | (go_at_call 28; have hgd := b4d; clear hgd; refine (HLD.out _ _ r4d).mono ?_; rintro z w5 ⟨rfl, bb⟩; have b05 := below_trans b4d bb; have f5 := f4d.later bb; have r5 := r4d.later bb; have xe5 := f5.cell 4 rfl; clear b4d))
      clear xe xe5 f4 b04 r4 f4d r4d bb x4 x5 x8
      go_wp2_with fail
      go_meet
      exact ⟨rfl, rfl, r5, f5, b05⟩
     ·obtain ⟨hf, hd, rfl, rfl, rfl⟩ := h
      have hf1 : (fam == 2) = false := by simpa using hf
      have hf2 : (fam != 2) = true := by simpa using hf
      subst hd
      clear HH
      have bd : Below w4.heap.size w4 w4.drew := (Below.refl _ _).drew
      have f4d := f4.later bd
      have b4d := below_trans b04 bd
      have r4d := r4.later bd
      have xe := f4d.cell 4 rfl
      go_wp2_with fail
      go_region_held3 (fun wq => wq.cell? ⟨bf, 4, none⟩ = some (.int .i64 dl)) (go_keep) (first
       | (go_at_call 28; have hgd := b4d; clear hgd; refine (HLD.out _ _ r4d).mono ?_; rintro z w5 ⟨rfl, bb⟩; have b05 := below_trans b4d bb; have f5 := f4d.later bb; have r5 := r4d.later bb; have xe5 := f5.cell 4 rfl; clear b4d))
      clear xe xe5 f4 b04 r4 f4d r4d bb x4 x5 x8
      go_wp2_with fail
      go_meet
      exact ⟨by go_num, rfl, r5, f5, b05⟩
     ·obtain ⟨hf, hd, hn, rfl, rfl⟩ := h
      have hf1 : (fam == 2) = false := by simpa using hf
      have hf2 : (fam != 2) = true := by simpa using hf
      have _hn3 : (n == 3) = false := (by simpa using hn); have _hn4 : (n != 3) = true := (by simpa using hn)
      subst hd
      clear HH
      have bd : Below w4.heap.size w4 w4.drew := (Below.refl _ _).drew
      have f4d := f4.later bd
      have b4d := below_trans b04 bd
      have r4d := r4.later bd
      have xe := f4d.cell 4 rfl
      go_wp2_with fail
      go_region_held3 (fun wq => wq.cell? ⟨bf, 4, none⟩ = some (.int .i64 dl)) (go_keep) (first
       | (go_at_call 28; have hgd := b4d; clear hgd; refine (HLD.out _ _ r4d).mono ?_; rintro z w5 ⟨rfl, bb⟩; have b05 := below_trans b4d bb; have f5 := f4d.later bb; have r5 := r4d.later bb; have xe5 := f5.cell 4 rfl; clear b4d))
      clear xe xe5 f4 b04 r4 f4d r4d bb x4 x5 x8
      have z4 := f5.cell 4 rfl
      have hdw : IntKind.i64.wrap (dl - 1) = dl - 1 := IntWalk.i64_in _ ⟨by omega, by omega⟩
      go_wp2_with fail
      refine (HPL.out _).mono ?_
      rintro z w6 ⟨v6, rfl, r6, b6⟩
      have f6 := f5.later b6
      have b06 := below_trans b05 b6
      have r56 := r5.later b6
      clear f5 b05 r5 b6 z4
      go_wp2_with fail
      refine (HLS.out (by trivial) _ _ _ r56 r6).mono ?_
      rintro z w7 ⟨v7, rfl, r7, b7⟩
      have f7 := f6.later b7
      have b07 := below_trans b06 b7
      clear f6 b06 r56 r6 b7
      go_wp2_with fail
      go_meet
      exact ⟨by go_num, rfl, r7, f7, b07⟩
   case rest =>
    obtain ⟨rfl, rfl, rs, f3, b03⟩ := hcut
    obtain ⟨w3, hw3⟩ : ∃ x, x = wc := ⟨_, rfl⟩
    subst hw3
    obtain ⟨fo, fc, rfl⟩ := rs.shape
    clear f2 q2 b02 y0 y1 y2 y3 y4 fx0 fx1 fx2 fx3 fx4 fx5 fx6 fx7 fx8 HC HU
    go_upto_region 31 with fail
    go_cut [14] (fun s14 wx => EncT w bf [.int .i64 (sz : Int), .int .i64 (ex : Int), .int .i64 (fr : Int), .int .i64 R, .int .i64 D, .int .i64 L, .int .i64 G, .bool gr, .int .i64 fam] (ng :: bnL E ex) F (.slice fo (Dg.dg 65536 F).length fc) s14 wx)
    case first =>
     have bd : Below w3.heap.size w3 w3.drew := (Below.refl _ _).drew
     have fd := f3.later bd
     have b0d := below_trans b03 bd
     have rd := rs.later bd
     obtain ⟨i0, hi, hz0, hz1, hz2⟩ := info_parts Tryz.infoB
     have hbl := bnL_len E ex
     refine wp_region_held_drew (S := fun wq => wq.cell? ⟨bf, 1, none⟩ = some (.int .i64 (ex : Int))) (by kernel_rfl) (fd.cell 1 rfl) (fun hS0 => ?_)
     refine wpAnyH_take (i := 0) (v := .bool ng) rfl (by kernel_rfl) (by kernel_rfl) (by kernel_rfl) (fun _ _ _ h => h) (Or.inl ⟨by kernel_rfl, fun w0 _ => by go_simp⟩) hS0 ?_
     refine wpAnyH_take (i := 2) (v := .int .i64 (E : Int)) rfl (by kernel_rfl) (by kernel_rfl) (by kernel_rfl) (fun _ _ _ h => h) (Or.inl ⟨by kernel_rfl, fun w0 _ => by go_simp⟩) hS0 ?_
     refine wpAnyH_take (i := 4) (v := .pointer (some ⟨bf, 1, none⟩)) rfl (by kernel_rfl) (by kernel_rfl) (by kernel_rfl) (fun _ _ _ h => h) (Or.inl ⟨by kernel_rfl, fun w0 _ => by go_simp⟩) hS0 ?_
     refine wpAnyH_take (i := 5) (v := .int .i64 (ex : Int)) rfl (by kernel_rfl) (by kernel_rfl) (by kernel_rfl) (fun _ _ _ h => h) (Or.inl ⟨by kernel_rfl, fun w0 hw0 => by go_simp⟩) hS0 ?_
     refine wpAnyH_ready (rs := [1, 3]) (by kernel_rfl) (by simp) ?_
     refine AllReadyH.cons rfl (fun K hK => ?_) (AllReadyH.cons rfl (fun K hK => ?_) AllReadyH.nil)
     ·go_simp
      have a1 : Below w3.heap.size w3 (w3.alloc (.cells #[.bool ng] 4)).drew := (below_alloc w3 (.cells #[.bool ng] 4)).drew
      have o1 : OwnB (w3.alloc (.cells #[.bool ng] 4)).drew w3.heap.size (.slice (some ⟨w3.heap.size, 0, none⟩) 1 1) [ng] := (ownB_new w3 ng).later (Below.refl _ _).drew
      have fa := f3.later a1
      have hsz := b03.size
      refine hK.out _ _ (fa.cell 1 rfl) (fun hS1 => ?_)
      clear hK K
      generalize (w3.alloc (.cells #[.bool ng] 4)).drew = wA at *
      refine wpAnyH_ready (rs := [3]) (by kernel_rfl) (by simp) ?_
      refine AllReadyH.cons rfl (fun K hK => ?_) AllReadyH.nil
      go_simp
      refine (HFR.out _).mono ?_
      rintro z wB ⟨vB, rfl, rB, bB⟩
      have fB := fa.later bB
      refine hK.out _ _ (fB.cell 1 rfl) (fun hS3 => ?_)
      clear hK K
      refine wpAnyH_ready (rs := [6]) (by kernel_rfl) (by simp) ?_
      refine AllReadyH.cons rfl (fun K hK => ?_) AllReadyH.nil
      go_simp
      refine (HBE.out _ _ rB).mono ?_
      rintro z wC ⟨gC, rfl, oC, bC⟩
      have fC := fB.later bC
      refine hK.out _ _ (fC.cell 1 rfl) (fun hS6 => ?_)
      clear hK K
      have oA := (o1.later bB).later bC
      have ch := below_trans (below_trans a1 bB) bC
      have fW := f3
      have rW := rs
      have bW0 := b03
      obtain ⟨v6, w6, hrun, o6, gr6⟩ := bools_more 74 74 i0 Tryz.underlying74 hi hz0 hz1 hz2 (oA.wider hsz) hbl.symm oC (by simp only [List.length_cons, List.length_nil]; omega) (Nat.le_trans hsz ch.size)
      have bW := ch.grown gr6 ch.size (fun k hk => by cases hk; exact Nat.le_refl _)
      have f6 := fW.later bW
      have r6 := rW.later bW
      have b06 := below_trans bW0 bW
      refine wpAnyH_ready (rs := [7]) (by kernel_rfl) (by simp) ?_
      refine AllReadyH.cons rfl (fun K hK => ?_) AllReadyH.nil
      refine step_run_append rfl (.tmp 121) (.tmp 126) 74 rfl _ _ v6 w6 rfl rfl hrun ?_
      refine hK.out _ _ (f6.cell 1 rfl) (fun hS7 => ?_)
      clear hK K
      refine wpAnyH_take (i := 8) (v := v6) rfl (by kernel_rfl) (by kernel_rfl) (by kernel_rfl) (fun _ _ _ h => h) (Or.inl ⟨by kernel_rfl, fun w0 _ => by go_simp⟩) hS7 ?_
      simp only [Act.put, List.getElem_toArray, List.getElem_cons_succ, List.getElem_cons_zero, List.setIfInBounds_toArray, List.set_cons_zero, List.set_cons_succ]
      refine wpAnyH_done (by kernel_rfl) ?_ _
      go_wp2_with fail
      go_meet
      exact ⟨o6, r6, f6, b06⟩
     ·go_simp
      refine (HFR.out _).mono ?_
      rintro z wB ⟨vB, rfl, rB, bB⟩
      have fB := fd.later bB
      have b0B := below_trans b0d bB
      have rF := rd.later bB
      refine hK.out _ _ (fB.cell 1 rfl) (fun hS3 => ?_)
      clear hK K
      refine wpAnyH_ready (rs := [1, 6]) (by kernel_rfl) (by simp) ?_
      refine AllReadyH.cons rfl (fun K hK => ?_) (AllReadyH.cons rfl (fun K hK => ?_) AllReadyH.nil)
      ·go_simp
       have a1 := below_alloc wB (.cells #[.bool ng] 4)
       have o1 := ownB_new wB ng
       have fa := fB.later a1
       have b0a := below_trans b0B a1
       have ra := rF.later a1
       have rE := rB.later a1
       have hsz := b0B.size
       refine hK.out _ _ (fa.cell 1 rfl) (fun hS1 => ?_)
       clear hK K
       generalize wB.alloc (.cells #[.bool ng] 4) = wA at *
       refine wpAnyH_ready (rs := [6]) (by kernel_rfl) (by simp) ?_
       refine AllReadyH.cons rfl (fun K hK => ?_) AllReadyH.nil
       go_simp
       refine (HBE.out _ _ rE).mono ?_
       rintro z wC ⟨gC, rfl, oC, bC⟩
       have fC := fa.later bC
       refine hK.out _ _ (fC.cell 1 rfl) (fun hS6 => ?_)
       clear hK K
       have oA := o1.later bC
       have ch := below_trans a1 bC
       have fW := fB
       have rW := rF
       have bW0 := b0B
       obtain ⟨v6, w6, hrun, o6, gr6⟩ := bools_more 74 74 i0 Tryz.underlying74 hi hz0 hz1 hz2 (oA.wider hsz) hbl.symm oC (by simp only [List.length_cons, List.length_nil]; omega) (Nat.le_trans hsz ch.size)
       have bW := ch.grown gr6 ch.size (fun k hk => by cases hk; exact Nat.le_refl _)
       have f6 := fW.later bW
       have r6 := rW.later bW
       have b06 := below_trans bW0 bW
       refine wpAnyH_ready (rs := [7]) (by kernel_rfl) (by simp) ?_
       refine AllReadyH.cons rfl (fun K hK => ?_) AllReadyH.nil
       refine step_run_append rfl (.tmp 121) (.tmp 126) 74 rfl _ _ v6 w6 rfl rfl hrun ?_
       refine hK.out _ _ (f6.cell 1 rfl) (fun hS7 => ?_)
       clear hK K
       refine wpAnyH_take (i := 8) (v := v6) rfl (by kernel_rfl) (by kernel_rfl) (by kernel_rfl) (fun _ _ _ h => h) (Or.inl ⟨by kernel_rfl, fun w0 _ => by go_simp⟩) hS7 ?_
       simp only [Act.put, List.getElem_toArray, List.getElem_cons_succ, List.getElem_cons_zero, List.setIfInBounds_toArray, List.set_cons_zero, List.set_cons_succ]
       refine wpAnyH_done (by kernel_rfl) ?_ _
       go_wp2_with fail
       go_meet
       exact ⟨o6, r6, f6, b06⟩
      ·go_simp
       refine (HBE.out _ _ rB).mono ?_
       rintro z wA ⟨gC, rfl, oB, bC⟩
       have fA := fB.later bC
       have b0A := below_trans b0B bC
       have rA := rF.later bC
       refine hK.out _ _ (fA.cell 1 rfl) (fun hS6 => ?_)
       clear hK K
       refine wpAnyH_ready (rs := [1]) (by kernel_rfl) (by simp) ?_
       refine AllReadyH.cons rfl (fun K hK => ?_) AllReadyH.nil
       go_simp
       have a1 := below_alloc wA (.cells #[.bool ng] 4)
       have oA := ownB_new wA ng
       have fC := fA.later a1
       have b0C := below_trans b0A a1
       have rC := rA.later a1
       have oC := oB.later a1
       have hsz := b0A.size
       refine hK.out _ _ (fC.cell 1 rfl) (fun hS1 => ?_)
       clear hK K
       generalize wA.alloc (.cells #[.bool ng] 4) = wC at *
       have ch := a1
       have fW := fA
       have rW := rA
       have bW0 := b0A
       obtain ⟨v6, w6, hrun, o6, gr6⟩ := bools_more 74 74 i0 Tryz.underlying74 hi hz0 hz1 hz2 (oA.wider hsz) hbl.symm oC (by simp only [List.length_cons, List.length_nil]; omega) (Nat.le_trans hsz ch.size)
       have bW := ch.grown gr6 ch.size (fun k hk => by cases hk; exact Nat.le_refl _)
       have f6 := fW.later bW
       have r6 := rW.later bW
       have b06 := below_trans bW0 bW
       refine wpAnyH_ready (rs := [7]) (by kernel_rfl) (by simp) ?_
       refine AllReadyH.cons rfl (fun K hK => ?_) AllReadyH.nil
       refine step_run_append rfl (.tmp 121) (.tmp 126) 74 rfl _ _ v6 w6 rfl rfl hrun ?_
       refine hK.out _ _ (f6.cell 1 rfl) (fun hS7 => ?_)
       clear hK K
       refine wpAnyH_take (i := 8) (v := v6) rfl (by kernel_rfl) (by kernel_rfl) (by kernel_rfl) (fun _ _ _ h => h) (Or.inl ⟨by kernel_rfl, fun w0 _ => by go_simp⟩) hS7 ?_
       simp only [Act.put, List.getElem_toArray, List.getElem_cons_succ, List.getElem_cons_zero, List.setIfInBounds_toArray, List.set_cons_zero, List.set_cons_succ]
       refine wpAnyH_done (by kernel_rfl) ?_ _
       go_wp2_with fail
       go_meet
       exact ⟨o6, r6, f6, b06⟩
    case rest =>
     obtain ⟨o4, r4, f4, b4⟩ := hcut
     have hbl := bnL_len E ex
     have hfl := bnL_len F fr
     have hol : (ng :: bnL E ex).length = 1 + ex := by simp [hbl]; omega
     obtain ⟨gb, cb, hs, hc1, hc2, hg, -⟩ := ownB_at o4 (by omega)
     rw [hol] at hs hc1
     subst hs
     have x2 := f4.cell 2 rfl
     clear f3 b03 rs
     go_wp2_with fail
     refine (HBF.out _ _ r4).mono ?_
     rintro z w5 ⟨g5, rfl, o5, b5⟩
     have o45 := o4.later b5
     have b05 := below_trans b4 b5
     clear x2 r4 f4 o4
     obtain ⟨i0, hi, hz0, hz1, hz2⟩ := info_parts Tryz.infoB
     obtain ⟨v6, w6, hrun, o6, gr6⟩ := bools_more 74 74 i0 Tryz.underlying74 hi hz0 hz1 hz2 o45 hfl.symm o5 (by rw [hol]; omega) b05.size
     have b06 : Below w.heap.size w w6 := b05.grown gr6 b05.size (fun k hk => (World.ownsRow.lt o45 k hk).1)
     have h6l : ((ng :: bnL E ex) ++ bnL F fr).length = nb := by rw [List.length_append, hol, hfl, hnb]
     obtain ⟨g6, c6, hs6, hc61, hc62, hg6, hcell⟩ := ownB_at o6 (by omega)
     rw [h6l] at hs6 hc61 hcell
     subst hs6
     have HT : Hid _ := HPT.out g6 c6 w6 hcell
     clear hcell o6 gr6 o45 o5 b5 b4 hbl hfl hol h6l HPT HBF HBE HFR
     go_wp2_with (at_builtin; refine wpList_append_run (by rfl) _ _ 74 (by rfl) _ _ _ w6 (by rfl) (by rfl) hrun ?_)
     go_wp2_with fail
     refine Calls.mono HT.out ?_
     rintro z w7 ⟨rfl, b7⟩
     go_wp2
     go_ret
     exact ⟨rfl, below_trans b06 b7⟩
end Go.Proofs.YtiiphandhpilgaaGreatDoor
namespace Go.Proofs.YtiiphandhpilgaaGreatDoor
open Go.RowKit
def byL (bf : Nat → Bool) (n : Nat) : List Nat := (List.range n).map fun i => valB (fun j => bf (8 * i + j)) 8
theorem byL_len (bf : Nat → Bool) (n : Nat) : (byL bf n).length = n := by simp [byL]
theorem byL_at (bf : Nat → Bool) (n i : Nat) (h : i < n) : (byL bf n).getD i 0 = valB (fun j => bf (8 * i + j)) 8 := by
 simp [byL, List.getD_eq_getElem?_getD, h]
theorem plN_twice {k i : Nat} (hk : 1 ≤ k ∧ k ≤ 8) (hi : i < szN k) : plN k (plN k i) = i := by
 obtain ⟨m, hm⟩ := (sizes_fit hk).2.2.2.2.1
 unfold plN
 by_cases h3 : k = 3
 ·rw [if_pos h3, if_pos h3]
  omega
 ·rw [if_neg h3, if_neg h3]
  by_cases h6 : 6 ≤ k
  ·rw [if_pos h6, if_pos h6]
   omega
  ·rw [if_neg h6, if_neg h6]
def PlI (k : Nat) (bf : Nat → Bool) (i : Nat) (cur : List Nat) : Prop :=
 cur.length = szN k ∧ ∀ j, j < i → cur.getD (plN k j) 0 = valB (fun u => bf (8 * j + u)) 8
theorem plI_step {k i : Nat} (hk : 1 ≤ k ∧ k ≤ 8) {bf : Nat → Bool} {cur : List Nat} (h : PlI k bf i cur) (hi : i < szN k) : PlI k bf (i + 1) (cur.set (plN k i) (valB (fun u => bf (8 * i + u)) 8)) := by
 obtain ⟨h1, h2⟩ := h
 have hl := plN_lt hk hi
 refine ⟨by simpa using h1, fun j hj => ?_⟩
 by_cases e : j = i
 ·subst e
  rw [Dg.getD_set _ _ _ _ (by omega), if_pos rfl]
 ·have hne : plN k i ≠ plN k j := fun he => by
   have h3 := plN_twice hk hi
   rw [he, plN_twice hk (by omega)] at h3
   exact e h3
  rw [Dg.getD_set _ _ _ _ (by omega), if_neg hne, h2 j (by omega)]
theorem plI_end {k : Nat} (hk : 1 ≤ k ∧ k ≤ 8) {bf : Nat → Bool} {cur : List Nat} (h : PlI k bf (szN k) cur) : cur = turnB k (byL bf (szN k)) := by
 obtain ⟨h1, h2⟩ := h
 apply List.ext_getElem (by rw [turnB_len, byL_len]; exact h1)
 intro p hp1 hp2
 have hp : p < szN k := by omega
 have e1 : cur.getD p 0 = cur[p] := by simp [List.getD_eq_getElem?_getD, hp1]
 have e2 : (turnB k (byL bf (szN k))).getD p 0 = (turnB k (byL bf (szN k)))[p] := by simp only [List.getD_eq_getElem?_getD, List.getElem?_eq_getElem hp2, Option.getD_some]
 rw [← e1, ← e2, plN_at k _ p (byL_len _ _) (by rw [byL_len]; exact hp), byL_at _ _ _ (plN_lt hk hp)]
 have := h2 (plN k p) (plN_lt hk hp)
 rw [plN_twice hk hp] at this
 exact this
set_option maxHeartbeats 6400000 in
theorem patternOf_any (k : Nat) (hk : 1 ≤ k ∧ k ≤ 8) (g off cap : Nat) (bf : Nat → Bool) (w : World) (hc : ∀ i, i < 8 * szN k → w.cell? ⟨g, off + i, none⟩ = some (.bool (bf i))) :
  Calls Tryz.prog 35 #[.int .i64 (k : Int), .slice (some ⟨g, off, none⟩) (8 * szN k) cap] w fun z w' => z = .returned (.string (strOf (turnB k (byL bf (szN k))))) ∧ Below w.heap.size w w' := by
 obtain ⟨i0, hi, hz0, hz1, hz2⟩ := info_parts Tryz.infoU8
 have hsz := (sizes_fit hk).2.2.1
 have hsz1 : 1 ≤ szN k := by rcases eight hk with rfl | rfl | rfl | rfl | rfl | rfl | rfl | rfl <;> decide
 have HP : Hid (∀ (i : Nat) w1, i < szN k → Calls Tryz.prog 63 #[.int .i64 (k : Int), .int .i64 (i : Int)] w1 fun z w' => z = .returned (.int .i64 ((plN k i : Nat) : Int)) ∧ Below w1.heap.size w1 w') := fun i w1 h => place_any k hk i h w1
 have HCC : Hid _ := hc
 have HE : Hid (∀ cur, PlI k bf (szN k) cur → cur = turnB k (byL bf (szN k))) := fun cur h => plI_end hk h
 have HS : Hid (∀ i cur, PlI k bf i cur → i < szN k → PlI k bf (i + 1) (cur.set (plN k i) (valB (fun u => bf (8 * i + u)) 8)) ∧ plN k i < szN k) := fun i cur h h' => ⟨plI_step hk h h', plN_lt hk h'⟩
 obtain ⟨sz, esz⟩ : ∃ x, szN k = x := ⟨_, rfl⟩
 have HL : Hid (∀ i cur, PlI k bf i cur → cur.length = sz) := fun i cur h => by rw [← esz]; exact h.1
 have hst0 : PlI k bf 0 (List.replicate sz 0) := ⟨by simp [esz], fun j hj => absurd hj (Nat.not_lt_zero _)⟩
 rw [esz] at hsz hsz1 HP HCC HE HS ⊢
 obtain ⟨nb, enb⟩ : ∃ x, 8 * sz = x := ⟨_, rfl⟩
 have hq : (nb : Int) / 8 = (sz : Int) := by omega
 have hnb : nb ≤ 80 := by omega
 have HNB : Hid (8 * sz = nb) := enb
 rw [enb] at HCC ⊢
 obtain ⟨st, est⟩ : ∃ x, strOf (turnB k (byL bf sz)) = x := ⟨_, rfl⟩
 have HST : Hid (strOf (turnB k (byL bf sz)) = st) := est
 rw [est]
 clear hc esz enb est hk
 go_enter Tryz.func35, Tryz.ntmps35
 go_wp2_with (at_make; refine wpList_make_full _ rfl _ _ 77 rfl w.heap.size 5 i0 (.int .u8 0) 1 Tryz.underlying77 hi hz0 hz1 _ _ _ _ sz rfl rfl (by omega) (by omega) ?b2 ?b3 (Nat.le_refl _) ?_)
 case b2 => rw [hz2]; omega
 case b3 => unfold maxLen; omega
 intro w0 hown hgrow
 have r0 := own_brow (own_made hown)
 have b0 : Below w.heap.size w w0 := (Below.refl _ _).grown hgrow (Nat.le_refl _) (fun k h => by cases h)
 clear hown hgrow
 go_wp2
 go_loopw [6] (fun iv wr => ∃ (i : Nat) (cur : List Nat), i ≤ sz ∧ iv = .int .i64 (i : Int) ∧ BRow wr w.heap.size cur ∧ PlI k bf i cur ∧ Below w.heap.size w wr) (fun iv _ => sz - (intOf iv).toNat)
 case atStart => exact ⟨0, List.replicate sz 0, by omega, rfl, r0, hst0, b0⟩
 case round =>
  obtain ⟨i, cur, hi1, rfl, row, hI, bel⟩ := hrel
  by_cases hlt : i < sz
  ·go_wp2
   go_loop [7, 8] (fun cv jv => ∃ j c : Nat, j ≤ 8 ∧ Hid (c = valB (fun u => bf (8 * i + u)) j ∧ c < 2 ^ j) ∧ c < 256 ∧ cv = .int .i64 (c : Int) ∧ jv = .int .i64 (j : Int)) (fun _ jv => 8 - (intOf jv).toNat)
   case atStart => exact ⟨0, 0, by omega, ⟨rfl, by simp⟩, by omega, rfl, rfl⟩
   case round =>
    obtain ⟨j, c, hj, HX, hc256, rfl, rfl⟩ := hrel
    by_cases hj8 : j < 8
    ·have hce := cell_later bel (HCC.out (8 * i + j) (by have := HNB.out; omega))
     have hx := HX.out.1
     have hxl := HX.out.2
     have hsv : valB (fun u => bf (8 * i + u)) (j + 1) = c * 2 + if bf (8 * i + j) then 1 else 0 := by rw [valB, ← hx]
     obtain ⟨bb, ebb⟩ : ∃ x, bf (8 * i + j) = x := ⟨_, rfl⟩
     rw [ebb] at hce hsv
     obtain ⟨p, ep⟩ : ∃ x, 8 * i + j = x := ⟨_, rfl⟩
     rw [ep] at hce
     have hpI : (8 : Int) * (i : Int) + (j : Int) = (p : Int) := by omega
     have hpl : p < nb := by have := HNB.out; omega
     have hl2 : (2 : Nat) ^ (j + 1) ≤ 2 ^ 8 := Nat.pow_le_pow_right (by omega) (by omega)
     have hvl := valB_lt (fun u => bf (8 * i + u)) (j + 1)
     have HH : Hid (_ ∧ _) := ⟨hsv, hvl⟩
     clear hx ebb ep hsv HX
     cases bb
     all_goals go_wp2
     all_goals (obtain ⟨hsv, hvl⟩ := HH.out; simp only [Bool.false_eq_true, if_false, if_true] at hsv; refine ⟨⟨j + 1, valB (fun u => bf (8 * i + u)) (j + 1), by omega, ⟨rfl, hvl⟩, by omega, by rw [hsv]; congr 1; omega, rfl⟩, by simp only [intOf]; omega⟩)
    ·obtain ⟨hx, hxl⟩ := HX.out
     have hj' : j = 8 := by omega
     rw [hj'] at hx
     obtain ⟨hst, hpl⟩ := HS.out i cur hI hlt
     have hp := fun w1 => HP.out i w1 hlt
     obtain ⟨pp, ep⟩ : ∃ x, plN k i = x := ⟨_, rfl⟩
     rw [ep] at hst hpl hp
     rw [← hx] at hst
     have HPP : Hid _ := hp
     have hcl := HL.out i cur hI
     have hjI : ¬ ((j : Int) < 8) := by omega
     have hwc : IntKind.u8.wrap (c : Int) = (c : Int) := by rw [IntKind.wrap_u8']; omega
     clear hp hx hj' ep HX hI
     go_wp2_with fail
     refine (HPP.out _).mono ?_
     rintro z w2 ⟨rfl, b2⟩
     have row2 := row.later b2
     have bel2 := below_trans bel b2
     have hf := row2.free pp (by omega)
     have hce := row2.cell pp (by omega)
     have row3 := row2.store pp c
     have bel3 := (but_set w2 w.heap.size pp (.int .u8 (c : Int))).below bel2 (Nat.le_refl _)
     have HR : Hid (_ ∧ _ ∧ _) := ⟨row3, bel3, hst⟩
     clear row3 bel3 hst row row2 bel bel2 b2
     go_wp2
     go_roundw
     case rel =>
      obtain ⟨row3, bel3, hst⟩ := HR.out
      exact ⟨i + 1, _, by omega, by go_num, row3, hst, bel3⟩
     case measure => simp [intOf]; omega
  ·have HI : Hid (i = sz) := (by omega : i = sz)
   have hcl := HL.out i cur hI
   have hcv := convert_brow (cap := sz) 77 9 Tryz.underlying77 Tryz.underlying5 Tryz.underlying9 row
   have he : cur = turnB k (byL bf sz) := HE.out cur (by have := HI.out; rw [← this] at *; exact hI)
   rw [hcl, he, HST.out] at hcv
   clear he
   go_wp2
   go_ret
   exact ⟨rfl, bel⟩
end Go.Proofs.YtiiphandhpilgaaGreatDoor

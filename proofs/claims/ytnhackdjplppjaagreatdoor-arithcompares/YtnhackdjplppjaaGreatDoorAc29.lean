/-
  Texts laid together: Cr2, Ce2, Ef1, Cr3, Co10, Co19.
-/
import Derived.Deep.RegionWith
import Derived.Laws.OwnMore
import Derived.Deep.AppendLies
import Derived.Deep.DeepCutAuto
import Derived.Deep.CutBlock
import Derived.Test.YtnhackdjplppjaaGreatDoorAc28
set_option maxRecDepth 100000
namespace Go.Proofs.YtnhackdjplppjaaGreatDoor
open Go.RowKit
def OwnB (w : World) (base : Nat) (v : Value) (bs : List Bool) : Prop := w.ownsRow base 4 1 v bs.length (bs.map Value.bool)
theorem Tryz.infoB : (Tryz.prog.info? 4).map (fun i => (i.zero, i.size, i.bytes)) = some (some (.bool false), 1, 1) := by kernel_rfl
def bitsL (ts : List Nat) : Nat → List Bool
 | 0 => []
 | n + 1 => bitsL ts n ++ [decide (bitB ts n = 1)]
theorem bitsL_len (ts : List Nat) : ∀ n, (bitsL ts n).length = n
 | 0 => rfl
 | n + 1 => by rw [bitsL, List.length_append, bitsL_len ts n]; rfl
theorem bitsL_at (ts : List Nat) : ∀ n i, i < n → (bitsL ts n)[i]? = some (decide (bitB ts i = 1))
 | 0, _, h => absurd h (Nat.not_lt_zero _)
 | n + 1, i, h => by
  rw [bitsL]
  by_cases hi : i < n
  ·rw [List.getElem?_append_left (by rw [bitsL_len]; exact hi)]
   exact bitsL_at ts n i hi
  ·have : i = n := by omega
   subst this
   rw [List.getElem?_append_right (by rw [bitsL_len]; exact Nat.le_refl _), bitsL_len, Nat.sub_self]
   rfl
theorem index_bytes {P : Program} (t : TypeId) (s : ByteArray) (p : Nat) (h : P.underlying t = some .string) (hp : p < s.size) (W : World) :
  (Instr.index t (.string s) (.int .i64 (p : Int))).run P W = .ok (.int .u8 (((bytesOf s).getD p 0 : Nat) : Int)) W := by
 rw [run_index_string W t s .i64 (p : Int) h, dif_pos ⟨by omega, by omega⟩]
 congr 2
 have hp' : p < s.data.size := hp
 rw [bytesOf, List.getD_eq_getElem?_getD, List.getElem?_map, Array.getElem?_toList, Array.getElem?_eq_getElem hp']
 rfl
theorem ownB_append {w wr w3 : World} {x : Bool} {es : List Bool} {lv v' : Value} (bel : Below w.heap.size w wr) (ownL : OwnB wr w.heap.size lv es)
  (hown' : w3.ownsRow w.heap.size 4 1 v' (es.length + 1) ((es.map Value.bool) ++ [.bool x]))
  (hgrow : (wr.alloc (.cells #[.bool x] 4)).grownBy w3 lv.ownBlock) :
  OwnB w3 w.heap.size v' (es ++ [x]) ∧ Below w.heap.size w w3 := by
 have b1 : Below wr.heap.size wr (wr.alloc (.cells #[.bool x] 4)) := (Below.refl _ _).alloc (Nat.le_refl _) _
 refine ⟨?_, ?_⟩
 ·unfold OwnB
  simpa using hown'
 ·refine (below_trans bel b1).grown hgrow (Nat.le_trans bel.size b1.size) (fun k hk => ?_)
  exact (World.ownsRow.lt ownL k hk).1
theorem OwnB.later {w w' : World} {base : Nat} {v : Value} {bs : List Bool} (h : OwnB w base v bs) (hb : Below w.heap.size w w') : OwnB w' base v bs := by
 obtain ⟨hl, h2⟩ := h
 refine ⟨hl, ?_⟩
 rcases h2 with h2 | ⟨g, cap, cur, hv, hbg, hh, r⟩
 ·exact .inl h2
 ·refine .inr ⟨g, cap, cur, hv, hbg, ?_, r⟩
  rw [hb.block g ?_]
  ·exact hh
  ·rw [Array.getElem?_eq_some_iff] at hh
   exact hh.1
theorem half_step : ∀ j, j < 8 → 2 ^ (7 - j) / 2 = if j + 1 < 8 then 2 ^ (7 - (j + 1)) else 0 := by decide
set_option maxHeartbeats 6400000 in
theorem bitsOf_any (k : Nat) (hk : 1 ≤ k ∧ k ≤ 8) (s : ByteArray) (w : World) (hs : s.size = szN k) :
  Calls Tryz.prog 112 #[.int .i64 (k : Int), .string s] w fun z w' => ∃ v, z = .returned v ∧ OwnB w' w.heap.size v (bitsL (fldB k s) (8 * szN k)) ∧ Below w.heap.size w w' := by
 obtain ⟨i0, hi, hz0, hz1, hz2⟩ := info_parts Tryz.infoB
 have HP : Hid (∀ (i : Nat) w1, i < szN k → Calls Tryz.prog 171 #[.int .i64 (k : Int), .int .i64 (i : Int)] w1 fun z w' => z = .returned (.int .i64 ((plN k i : Nat) : Int)) ∧ Below w1.heap.size w1 w') := fun i w1 h => place_any k hk i h w1
 have HX : Hid (∀ p W, p < s.size → (Instr.index 9 (.string s) (.int .i64 (p : Int))).run Tryz.prog W = .ok (.int .u8 (((bytesOf s).getD p 0 : Nat) : Int)) W) := fun p W h => index_bytes 9 s p Tryz.underlying9 h W
 have HT : Hid (∀ i, i < szN k → (fldB k s).getD i 0 = (bytesOf s).getD (plN k i) 0 ∧ plN k i < szN k) := fun i h => ⟨plN_at k _ i (by rw [bytesOf_len, hs]) (by rw [bytesOf_len, hs]; exact h), plN_lt hk h⟩
 have hsm := turnB_small k _ (bytesOf_small s)
 have HSM : Hid (Dg.Small 256 (fldB k s)) := hsm
 have hsz := (sizes_fit hk).2.2.1
 obtain ⟨sz, esz⟩ : ∃ x, szN k = x := ⟨_, rfl⟩
 obtain ⟨ts, ets⟩ : ∃ x, fldB k s = x := ⟨_, rfl⟩
 rw [esz] at HP HT hsz hs ⊢
 rw [ets] at HT HSM ⊢
 clear hsm esz ets hk
 go_enter Tryz.func112, Tryz.ntmps112
 go_wp2
 go_loopw [5, 6] (fun ov iv wr => ∃ i : Nat, i ≤ sz ∧ iv = .int .i64 (i : Int) ∧ OwnB wr w.heap.size ov (bitsL ts (8 * i)) ∧ Below w.heap.size w wr) (fun _ iv _ => sz - (intOf iv).toNat)
 case atStart => exact ⟨0, by omega, rfl, World.ownsRow_nil _ _ _ 1, Below.refl _ _⟩
 case round =>
  obtain ⟨i, hi1, rfl, own, bel⟩ := hrel
  by_cases hlt : i < sz
  ·have hx := HX.out (plN k i)
   obtain ⟨ht1, ht2⟩ := HT.out i hlt
   have hx := fun W => HX.out (plN k i) W (by omega)
   rw [← ht1] at hx
   have hc := HSM.out i
   obtain ⟨c, ec⟩ : ∃ c, ts.getD i 0 = c := ⟨_, rfl⟩
   obtain ⟨pp, ep⟩ : ∃ c, plN k i = c := ⟨_, rfl⟩
   have hp := fun w1 => HP.out i w1 hlt
   rw [ep] at hx hp
   rw [ec] at hx hc
   have HPP : Hid _ := hp
   have HC : Hid (ts.getD i 0 = c) := ec
   have hwc : IntKind.i64.wrap (c : Int) = (c : Int) := IntWalk.i64_in _ ⟨by omega, by omega⟩
   clear hp ht1 ht2 ep ec
   go_wp2_with fail
   refine (HPP.out _).mono ?_
   rintro z w2 ⟨rfl, b2⟩
   have own2 := own.later b2
   have bel2 := below_trans bel b2
   clear own bel b2 HPP
   go_wp2
   go_loopw [5, 8] (fun ov kv wr => ∃ j kk : Nat, j ≤ 8 ∧ Hid (kk = if j < 8 then 2 ^ (7 - j) else 0) ∧ kv = .int .i64 (kk : Int) ∧ kk ≤ 128 ∧ OwnB wr w.heap.size ov (bitsL ts (8 * i + j)) ∧ Below w.heap.size w wr) (fun _ kv _ => (intOf kv).toNat)
   case atStart => exact ⟨0, 128, by omega, rfl, rfl, by omega, own2, bel2⟩
   case round =>
    obtain ⟨j, kk, hj, HK, rfl, hkl, own, bel⟩ := hrel
    by_cases hj8 : j < 8
    ·have hkk : kk = 2 ^ (7 - j) := by have := HK.out; rwa [if_pos hj8] at this
     have hk0 : 0 < kk := by rw [hkk]; exact Nat.pow_pos (by omega)
     obtain ⟨b, eb⟩ : ∃ b, decide (bitB ts (8 * i + j) = 1) = b := ⟨_, rfl⟩
     have hbit : bitB ts (8 * i + j) = c / kk % 2 := by
      unfold bitB
      rw [show (8 * i + j) / 8 = i from by omega, show (8 * i + j) % 8 = j from by omega, HC.out, hkk]
     have hsu : bitsL ts (8 * i + (j + 1)) = bitsL ts (8 * i + j) ++ [b] := by rw [← eb, show 8 * i + (j + 1) = 8 * i + j + 1 from by omega]; rfl
     obtain ⟨r, er⟩ : ∃ r, c / kk % 2 = r := ⟨_, rfl⟩
     obtain ⟨q, eq⟩ : ∃ q, c / kk = q := ⟨_, rfl⟩
     have hqI : (c : Int) / (kk : Int) = (q : Int) := by rw [← eq]; exact (Int.natCast_ediv c kk).symm
     have hql : q < 256 := by rw [← eq]; exact Nat.lt_of_le_of_lt (Nat.div_le_self _ _) hc
     have hrI : (q : Int) % 2 = (r : Int) := by rw [← er, eq]; omega
     have hbI : ((r : Int) == 1) = b := by
      rw [← eb, hbit, er]
      by_cases h : r = 1
      ·subst h; rfl
      ·rw [decide_eq_false h]; simp; omega
     have hkI : ((kk : Int) != 0) = true := by rw [bne_iff_ne]; omega
     have hhf : (kk : Int) / 2 = ((kk / 2 : Nat) : Int) := by omega
     have hst := half_step j hj8
     rw [← hkk] at hst
     have HST : Hid (_ ∧ _) := ⟨hst, hsu⟩
     have hlen := bitsL_len ts (8 * i + j)
     obtain ⟨es, ees⟩ : ∃ es, bitsL ts (8 * i + j) = es := ⟨_, rfl⟩
     rw [ees] at own hlen HST
     have hel : es.length ≤ 200 := by omega
     obtain ⟨kh, ekh⟩ : ∃ x, kk / 2 = x := ⟨_, rfl⟩
     rw [ekh] at hhf HST
     have hkh : kh < kk := by omega
     have hbs := bel.size
     clear eb hbit hsu er eq hst hlen ees ekh hkk HK
     go_wp2_with (at_builtin; refine wpList_append_own _ rfl _ _ 171 rfl w.heap.size 4 i0 (.bool false) 1 1 Tryz.underlying171 hi hz0 hz1 hz2 rfl (by decide) _ _ _ rfl (World.ownsRow.alloc own _) ⟨wr.heap.size, 0, none⟩ 1 1 [.bool b] rfl rfl ?c1 ?c2 ?c3 ?c4 ?c5 ?_)
     case c1 => exact cell_one_new _ _ _
     case c2 => intro u hu; simp at hu; subst hu; rfl
     case c3 => unfold maxLen; omega
     case c4 => omega
     case c5 => simp; omega
     intro v' w3 hown' hgrow _
     have R := ownB_append bel own hown' hgrow
     clear hown' hgrow own
     go_wp2
     go_roundw
     case rel => exact ⟨j + 1, kh, by omega, HST.out.1, rfl, by omega, by rw [HST.out.2]; exact R.1, R.2⟩
     case measure => simp [intOf]; omega
    ·have hk0 : kk = 0 := by have := HK.out; rwa [if_neg hj8] at this
     have HJ : Hid (j = 8) := (by omega : j = 8)
     subst hk0
     go_wp2
     go_roundw
     case rel =>
      have := HJ.out
      subst this
      exact ⟨i + 1, by omega, by go_num, own, bel⟩
     case measure => simp [intOf]; omega
  ·have HI : Hid (i = sz) := (by omega : i = sz)
   go_wp2
   go_ret
   have := HI.out
   subst this
   exact ⟨_, rfl, own, bel⟩
end Go.Proofs.YtnhackdjplppjaaGreatDoor
namespace Go.Proofs.YtnhackdjplppjaaGreatDoor
open Go.RowKit
theorem OwnB.store {w : World} {base g n cap : Nat} {bs : List Bool} (h : OwnB w base (.slice (some ⟨g, 0, none⟩) n cap) bs) (hn : n = bs.length) (j : Nat) (x : Bool) :
  OwnB (w.setCell ⟨g, j, none⟩ (.bool x)) base (.slice (some ⟨g, 0, none⟩) n cap) (bs.set j x) := by
 subst hn
 have := (World.ownsRow.stored h j (.bool x)).1
 unfold OwnB
 rw [List.length_set, List.map_set]
 exact this
theorem OwnB.free {w : World} {base g n cap : Nat} {bs : List Bool} (h : OwnB w base (.slice (some ⟨g, 0, none⟩) n cap) bs) (hn : n = bs.length) (j : Nat) : w.frozen? ⟨g, j, none⟩ = false := by
 subst hn
 exact World.ownsRow.frozenAt h j
theorem OwnB.block {w : World} {base g n cap : Nat} {bs : List Bool} (h : OwnB w base (.slice (some ⟨g, 0, none⟩) n cap) bs) (hn : n = bs.length) : base ≤ g ∧ g < w.heap.size := by
 subst hn
 exact World.ownsRow.lt h g rfl
theorem OwnB.cell {w : World} {base g n cap : Nat} {bs : List Bool} (h : OwnB w base (.slice (some ⟨g, 0, none⟩) n cap) bs) (hn : n = bs.length) (j : Nat) (hj : j < bs.length) : w.cell? ⟨g, j, none⟩ = some (.bool (bs.getD j false)) := by
 subst hn
 have hc := World.ownsRow.cellAt h j (by omega)
 rw [hc, List.getElem?_map, List.getElem?_eq_getElem hj]
 simp [List.getD_eq_getElem?_getD, hj]
end Go.Proofs.YtnhackdjplppjaaGreatDoor
namespace Go.Proofs.YtnhackdjplppjaaGreatDoor
open Go.RowKit
theorem step_run_append {P : Program} {ops : Array Oper} {o : Oper} {a : Act} {w : World} {K : Act → World → Prop} {Q : Exit → Act → World → Prop} {E : Prop}
  (hg : o.guard = none) (s x : Operand) (t : TypeId) (hop : o.op = Op.call { callee := Callee.builtin Builtin.append, args := #[s, x], argTypes := #[t, t] })
  (v u v' : Value) (w' : World) (hs : a.eval s = v) (hx : a.eval x = u) (hr : (Builtin.append_ #[t, t] o.type #[v, u]).run P w = .ok v' w') (hK : K (a.put o.dst v') w') :
  if Region.wanted o (yielded ops a.tmps) = true then Oper.wp P o a w K Q else E := by
 have hw : Region.wanted o (yielded ops a.tmps) = true := by simp [Region.wanted, hg]
 rw [if_pos hw]
 unfold Oper.wp
 simp [execOp, hop, resolve, invoke, builtin, hs, hx, hr, Result.andThen]
 exact hK
end Go.Proofs.YtnhackdjplppjaaGreatDoor
namespace Go.Proofs.YtnhackdjplppjaaGreatDoor
open Go.RowKit
def valB (bf : Nat → Bool) : Nat → Nat
 | 0 => 0
 | n + 1 => valB bf n * 2 + if bf n then 1 else 0
theorem valB_lt (bf : Nat → Bool) : ∀ n, valB bf n < 2 ^ n
 | 0 => by simp [valB]
 | n + 1 => by
  have := valB_lt bf n
  rw [valB, Nat.pow_succ]
  split <;> omega
theorem valB_bits (ts : List Nat) (f : Nat) : ∀ n, valB (fun i => decide (bitB ts (f + i) = 1)) n = bitsV ts f n
 | 0 => rfl
 | n + 1 => by
  rw [valB, bitsV, valB_bits ts f n]
  have := bitB_lt ts (f + n)
  by_cases h : bitB ts (f + n) = 1
  ·rw [h]; simp; omega
  ·rw [show bitB ts (f + n) = 0 from by omega]; simp; omega
set_option maxHeartbeats 3200000 in
theorem refValue_any (b off n cap : Nat) (bf : Nat → Bool) (w : World) (hn : n ≤ 64) (hc : ∀ i, i < n → w.cell? ⟨b, off + i, none⟩ = some (.bool (bf i))) :
  Calls Tryz.prog 113 #[.slice (some ⟨b, off, none⟩) n cap] w (RNum w (valB bf n)) := by
 have HCC : Hid _ := hc
 clear hc
 go_enter Tryz.func113, Tryz.ntmps113
 go_wp2
 go_loopw [3, 4] (fun av iv wr => ∃ k : Nat, k ≤ n ∧ iv = .int .i64 (k : Int) ∧ Rd wr .i64 av (Dg.dg 65536 (valB bf k)) ∧ Below w.heap.size w wr) (fun _ iv _ => n - (intOf iv).toNat)
 case atStart => exact ⟨0, Nat.zero_le _, rfl, (own_nil _ 0 0 _).rd, Below.refl _ _⟩
 case round =>
  obtain ⟨k, hk, rfl, hr, bel⟩ := hrel
  obtain ⟨m, em⟩ : ∃ m, valB bf k = m := ⟨_, rfl⟩
  rw [em] at hr
  obtain ⟨ao, ca, rfl⟩ := hr.shape
  by_cases hlt : k < n
  ·have hcell := HCC.out k hlt
   have hvl := valB_lt bf k
   have hpw : (2 : Nat) ^ k ≤ 2 ^ 63 := Nat.pow_le_pow_right (by omega) (by omega)
   have hsv : valB bf (k + 1) = valB bf k * 2 + if bf k then 1 else 0 := rfl
   rw [em] at hvl hsv
   have hln : (Dg.dg 65536 m).length ≤ 4 := Dg.dg_len_le 65536 m 4 (by omega) (by omega)
   have hln2 : (Dg.dg 65536 (m * 2)).length ≤ 4 := Dg.dg_len_le 65536 (m * 2) 4 (by omega) (by omega)
   obtain ⟨bb, ebb⟩ : ∃ x, bf k = x := ⟨_, rfl⟩
   rw [ebb] at hcell hsv
   have HSV : Hid (valB bf (k + 1) = m * 2 + if bb then 1 else 0) := hsv
   have a1 := below_alloc wr (.cells #[.int .i64 2] 3)
   have r2 : Rd (wr.alloc (.cells #[.int .i64 2] 3)) .i64 (.slice (some ⟨wr.heap.size, 0, none⟩) 1 1) [2] := rd_new (w := wr) (k := .i64) (e := 3) [2] #[.int .i64 2] rfl (by unfold maxLen; simp)
   have ht := reftimes_any _ _ _ [2] _ (hr.later a1) r2 (Dg.small_dg 65536 m (by omega)) (fun i => by
    match i with
    | 0 => decide
    | i + 1 => simp) (by omega) (by simp)
   rw [Dg.vl_dg 65536 m (by omega), show Dg.vl 65536 [2] = 2 from rfl] at ht
   have HT : Hid (Calls Tryz.prog 76 #[.slice ao (Dg.dg 65536 m).length ca, .slice (some ⟨wr.heap.size, 0, none⟩) 1 1] (wr.alloc (.cells #[.int .i64 2] 3)) (RNum (wr.alloc (.cells #[.int .i64 2] 3)) (m * 2))) := ht
   have c0 := cell_later bel hcell
   have bw := below_trans bel a1
   clear ht hsv ebb em hvl hpw
   go_wp2_with fail
   refine Calls.mono HT.out ?_
   rintro z w2 ⟨v2, rfl, rd2, b2⟩
   obtain ⟨vo, vc, hv2⟩ := rd2.shape
   subst hv2
   have c2 := cell_later b2 (cell_later a1 c0)
   have bw2 := below_trans bw b2
   cases bb
   ·go_wp2
    go_roundw
    case rel => exact ⟨k + 1, by omega, by go_num, by rw [HSV.out]; exact rd2, bw2⟩
    case measure => simp [intOf]; omega
   ·have a3 := below_alloc w2 (.cells #[.int .i64 1] 3)
    have r1 : Rd (w2.alloc (.cells #[.int .i64 1] 3)) .i64 (.slice (some ⟨w2.heap.size, 0, none⟩) 1 1) [1] := rd_new (w := w2) (k := .i64) (e := 3) [1] #[.int .i64 1] rfl (by unfold maxLen; simp)
    have hp := refplus_any _ _ _ [1] _ (rd2.later a3) r1 (Dg.small_dg 65536 (m * 2) (by omega)) (fun i => by
     match i with
     | 0 => decide
     | i + 1 => simp) (Dg.norm_dg 65536 (m * 2) (by omega)) (fun _ => by simp) (by omega) (by simp)
    rw [Dg.vl_dg 65536 (m * 2) (by omega), show Dg.vl 65536 [1] = 1 from rfl] at hp
    have HP : Hid (Calls Tryz.prog 78 #[.slice vo (Dg.dg 65536 (m * 2)).length vc, .slice (some ⟨w2.heap.size, 0, none⟩) 1 1] (w2.alloc (.cells #[.int .i64 1] 3)) (RNum (w2.alloc (.cells #[.int .i64 1] 3)) (m * 2 + 1))) := hp
    have bw3 := below_trans bw2 a3
    clear hp
    go_wp2_with fail
    refine Calls.mono HP.out ?_
    rintro z w4 ⟨v4, rfl, rd4, b4⟩
    go_wp2
    go_roundw
    case rel => exact ⟨k + 1, by omega, by go_num, by rw [HSV.out]; exact rd4, below_trans bw3 b4⟩
    case measure => simp [intOf]; omega
  ·have HK : Hid (k = n ∧ valB bf k = m) := ⟨by omega, em⟩
   clear em
   go_wp2
   go_ret
   obtain ⟨h1, h2⟩ := HK.out
   subst h1 h2
   exact ⟨_, rfl, hr, bel⟩
end Go.Proofs.YtnhackdjplppjaaGreatDoor
namespace Go.Proofs.YtnhackdjplppjaaGreatDoor
open Go.RowKit
def setB (f : Nat) : Nat → Nat → List Nat → List Nat
 | 0, _, zs => zs
 | c + 1, x, zs => setB f c (x / 2) (zs.set ((f + c) / 8) (zs.getD ((f + c) / 8) 0 ||| x % 2 * 2 ^ (7 - (f + c) % 8)))
theorem bit_at_lt (x r : Nat) : x % 2 * 2 ^ (7 - r) < 256 := by
 have h1 : (2 : Nat) ^ (7 - r) ≤ 2 ^ 7 := Nat.pow_le_pow_right (by omega) (by omega)
 have h2 := Nat.mod_lt x (show 0 < 2 by omega)
 have h3 : x % 2 * 2 ^ (7 - r) ≤ 1 * 2 ^ 7 := Nat.mul_le_mul (by omega) h1
 omega
theorem set_small {B : Nat} {zs : List Nat} (h : Dg.Small B zs) (i x : Nat) (hx : x < B) : Dg.Small B (zs.set i x) := by
 intro k
 by_cases hk : i < zs.length
 ·rw [Dg.getD_set _ _ _ _ hk]
  by_cases e : i = k
  ·rw [if_pos e]; exact hx
  ·rw [if_neg e]; exact h k
 ·rw [List.set_eq_of_length_le (by omega)]
  exact h k
theorem bit_put (b y r : Nat) (hb : b < 256) (hy : y < 18446744073709551616) : bits .or .u8 (b : Int) (bits .and .u64 (y : Int) 1 % 256 * 2 ^ (7 - r) % 256) = ((b ||| y % 2 * 2 ^ (7 - r) : Nat) : Int) := by
 have e2 := u64_and_nat y 1 hy (by omega)
 rw [Nat.and_one_is_mod] at e2
 have h2 := Nat.mod_lt y (show 0 < 2 by omega)
 have h3 := bit_at_lt y r
 have e3 : (((y % 2 : Nat) : Int) % 256 * 2 ^ (7 - r)) = ((y % 2 * 2 ^ (7 - r) : Nat) : Int) := by
  rw [show ((y % 2 : Nat) : Int) % 256 = ((y % 2 : Nat) : Int) from by omega]
  push_cast
  rfl
 rw [show (1 : Int) = ((1 : Nat) : Int) from rfl, e2, e3, show ((y % 2 * 2 ^ (7 - r) : Nat) : Int) % 256 = ((y % 2 * 2 ^ (7 - r) : Nat) : Int) from by omega]
 exact u8_or_nat _ _ hb h3
set_option maxHeartbeats 3200000 in
theorem csetBits_any (g cap : Nat) (zs : List Nat) (f c x : Nat) (w : World) (hr : BRow w g zs) (hs : Dg.Small 256 zs) (hx : x < 18446744073709551616) (hfc : f + c ≤ 8 * zs.length) (hl : zs.length ≤ 1000) :
  Calls Tryz.prog 207 #[.slice (some ⟨g, 0, none⟩) zs.length cap, .int .i64 f, .int .i64 c, .int .u64 x] w fun e w' => e = .returned (.tuple #[]) ∧ BRow w' g (setB f c x zs) ∧ w.grownBy w' (some g) := by
 go_enter Tryz.func207, Tryz.ntmps207
 go_wp2
 go_loopw [3, 8] (fun xv iv wr => ∃ (j y : Nat) (cur : List Nat), j ≤ c ∧ iv = .int .i64 ((f : Int) + j - 1) ∧ xv = .int .u64 (y : Int) ∧ y < 18446744073709551616 ∧ BRow wr g cur ∧ Dg.Small 256 cur ∧ Hid (cur.length = zs.length) ∧ Hid (setB f j y cur = setB f c x zs) ∧ w.grownBy wr (some g))
  (fun _ iv _ => (intOf iv + 1).toNat)
 case atStart => exact ⟨c, x, zs, Nat.le_refl _, by go_num, rfl, hx, hr, hs, rfl, rfl, grown_refl _ _⟩
 case round =>
  obtain ⟨j, y, cur, hj, rfl, rfl, hy, own, hsm, Hl, Hx, gr⟩ := hrel
  have hlen := Hl.out
  by_cases hj0 : 0 < j
  ·obtain ⟨j', rfl⟩ : ∃ j', j = j' + 1 := ⟨j - 1, by omega⟩
   obtain ⟨i, hi⟩ : ∃ i, f + j' = i := ⟨_, rfl⟩
   have hiI : (f : Int) + ((j' + 1 : Nat) : Int) - 1 = (i : Int) := by omega
   rw [hiI]
   obtain ⟨q, hq⟩ : ∃ q, i / 8 = q := ⟨_, rfl⟩
   obtain ⟨r, hr'⟩ : ∃ r, i % 8 = r := ⟨_, rfl⟩
   have hqI : (i : Int) / 8 = (q : Int) := by omega
   have hrI : (i : Int) % 8 = (r : Int) := by omega
   have hcell := own.cell q (by omega)
   have hfree := own.free q (by omega)
   have hs1 := hsm q
   obtain ⟨b, hb⟩ : ∃ b, cur.getD q 0 = b := ⟨_, rfl⟩
   rw [hb] at hcell hs1
   have hql : q < zs.length := by omega
   have hr8 : r < 8 := by omega
   have HH : Hid (_ ∧ _ ∧ _ ∧ _) := ⟨hi, hq, hr', hb⟩
   have hic : (f : Int) ≤ (i : Int) := by omega
   have hib : (i : Int) ≤ 8000 := by omega
   clear hi hq hr' hb hlen hiI
   go_wp2
   go_region
   all_goals go_wp2
   all_goals go_roundw
   case rel =>
    obtain ⟨hi, hq, hr', hb⟩ := HH.out
    have hbl : b ||| y % 2 * 2 ^ (7 - r) < 256 := Nat.or_lt_two_pow (n := 8) hs1 (bit_at_lt y r)
    refine ⟨j', y / 2, cur.set q (b ||| y % 2 * 2 ^ (7 - r)), by omega, by congr 1; omega, rfl, by omega, ?_, set_small hsm _ _ hbl, ?_, ?_, grown_trans gr (grown_trans (grown_set _ _ _ _) (grown_drew _ _))⟩
    ·rw [bit_put b y r hs1 hy]
     exact (own.store q _).drew
    ·show _ = _
     rw [List.length_set]
     exact Hl.out
    ·show _ = _
     have := Hx.out
     rw [setB, hi, hq, hr', hb] at this
     exact this
   case measure => simp only [intOf]; omega
  ·have hd : ¬ ((f : Int) ≤ (f : Int) + (j : Int) - 1) := by omega
   have h0 : Hid (j = 0) := (by omega : j = 0)
   clear hlen
   go_wp2
   go_end0
   have h1 := h0.out
   subst h1
   have := Hx.out
   rw [setB] at this
   rw [← this]
   exact ⟨rfl, own, gr⟩
end Go.Proofs.YtnhackdjplppjaaGreatDoor
namespace Go.Proofs.YtnhackdjplppjaaGreatDoor
open Go.RowKit
theorem setB_len (f : Nat) : ∀ (c x : Nat) (zs : List Nat), (setB f c x zs).length = zs.length
 | 0, _, _ => rfl
 | c + 1, x, zs => by rw [setB, setB_len f c]; exact List.length_set
theorem setB_small (f : Nat) : ∀ (c x : Nat) (zs : List Nat), Dg.Small 256 zs → Dg.Small 256 (setB f c x zs)
 | 0, _, _, h => h
 | c + 1, x, zs, h => by
  rw [setB]
  exact setB_small f c _ _ (set_small h _ _ (Nat.or_lt_two_pow (n := 8) (h _) (bit_at_lt _ _)))
theorem convert_brow {P : Program} {w : World} {e g cap : Nat} {zs : List Nat} (src dst : TypeId) (hs : P.underlying src = some (.slice e)) (he : P.underlying e = some (.int .u8)) (hd : P.underlying dst = some .string)
  (h : BRow w g zs) : (convert src dst (.slice (some ⟨g, 0, none⟩) zs.length cap)).run P w = .ok (.string (strOf zs)) w := by
 rw [run_convert_bytes_string w src dst e _ _ _ hs he hd]
 have hl := run_loadCells_list (P := P) w ⟨g, 0, none⟩ (zs.map (fun n : Nat => Value.int .u8 (n : Int))) (by
  intro j u hj
  have hjl : j < zs.length := by have := (List.getElem?_eq_some_iff.1 hj).1; simpa using this
  rw [getD_map_cell _ zs j hjl] at hj
  rw [addr_add, Nat.zero_add, h.cell j hjl]; exact hj)
 rw [List.length_map] at hl
 have := run_bytesToString (P := P) w ⟨g, 0, none⟩ zs.length cap (zs.map (fun n : Nat => (n : Int))) (by
  rw [hl]; simp)
 rw [this, fold_push]
 simp [strOf]
set_option maxHeartbeats 6400000 in
theorem cwrite_true (R D L G fam : Int) (gr : Bool) (sz ex fr : Nat) (F : Nat) (e f : Nat) (ts : List Nat) (w : World) (hfr : 1 + ex + fr = 8 * sz) (hex : ex ≤ 15) (hsz : sz ≤ 10) (he : e < 65536) (hf : f < 18446744073709551616) (hts : ts.length = sz)
  (HT : ∀ g cap w1, BRow w1 g (setB (1 + ex) fr f (setB 1 ex e (setB 0 1 1 (List.replicate sz 0)))) → Calls Tryz.prog F #[.slice (some ⟨g, 0, none⟩) sz cap] w1 fun z w' => z = .returned (.tuple #[]) ∧ BRow w' g ts ∧ w1.grownBy w' (some g))
  (HFR : ∀ w1, Calls Tryz.prog 197 #[.agg #[.int .i64 R, .int .i64 D, .int .i64 L, .int .i64 G, .bool gr, .int .i64 (sz : Int), .int .i64 (ex : Int), .int .i64 fam, .func (.func F) #[] #[]]] w1 fun z w' => z = .returned (.int .i64 (fr : Int)) ∧ Below w1.heap.size w1 w')
  (HE : ∀ args W, Sem.run Tryz.prog (callFunc F args) W = .ok (.enter F args) W) :
  Calls Tryz.prog 158 #[.agg #[.int .i64 R, .int .i64 D, .int .i64 L, .int .i64 G, .bool gr, .int .i64 (sz : Int), .int .i64 (ex : Int), .int .i64 fam, .func (.func F) #[] #[]], .agg #[.bool true, .int .i64 (e : Int), .int .u64 (f : Int)]] w fun z w' => z = .returned (.string (strOf ts)) ∧ Below w.heap.size w w' := by
 have hsf := hsf_z
 have l0 := (locE_new w [.int .i64 R, .int .i64 D, .int .i64 L, .int .i64 G, .bool gr, .int .i64 (sz : Int), .int .i64 (ex : Int), .int .i64 fam, .func (.func F) #[] #[]] 144).later (below_alloc _ (.cells #[.bool true, .int .i64 (e : Int), .int .u64 (f : Int)] 147))
 have m0 := locE_new (w.alloc (.cells #[.int .i64 R, .int .i64 D, .int .i64 L, .int .i64 G, .bool gr, .int .i64 (sz : Int), .int .i64 (ex : Int), .int .i64 fam, .func (.func F) #[] #[]] 144)) [.bool true, .int .i64 (e : Int), .int .u64 (f : Int)] 147
 have b0 := below_trans (below_alloc w (.cells #[.int .i64 R, .int .i64 D, .int .i64 L, .int .i64 G, .bool gr, .int .i64 (sz : Int), .int .i64 (ex : Int), .int .i64 fam, .func (.func F) #[] #[]] 144)) (below_alloc _ (.cells #[.bool true, .int .i64 (e : Int), .int .u64 (f : Int)] 147))
 rw [World.size_alloc] at m0
 have H2 : ((w.alloc (.cells #[.int .i64 R, .int .i64 D, .int .i64 L, .int .i64 G, .bool gr, .int .i64 (sz : Int), .int .i64 (ex : Int), .int .i64 fam, .func (.func F) #[] #[]] 144)).alloc (.cells #[.bool true, .int .i64 (e : Int), .int .u64 (f : Int)] 147)).heap.size = w.heap.size + 2 := by rw [World.size_alloc, World.size_alloc]
 obtain ⟨i0, hi, hz0, hz1, hz2⟩ := info_parts Tryz.infoU8
 have HT' : Hid _ := HT
 have HFR' : Hid _ := HFR
 clear HT HFR
 obtain ⟨x0, x1, x2, x3, x4, x5, x6, x7, x8⟩ := l0.cs9
 obtain ⟨u0, u1, u2⟩ := m0.cs3
 go_enter Tryz.func158, Tryz.ntmps158
 go_wp2_with (at_make; refine wpList_make_full _ rfl _ _ 110 rfl (w.heap.size + 2) 5 i0 (.int .u8 0) 1 Tryz.underlying110 hi hz0 hz1 _ _ _ _ sz rfl rfl (by omega) (by omega) ?b2 ?b3 (Nat.le_of_eq H2.symm) ?_)
 case b2 => rw [hz2]; omega
 case b3 => unfold maxLen; omega
 intro w1 hown hgrow
 have r1 := own_brow (own_made hown)
 have bg := (Below.refl _ _).grown hgrow (Nat.le_refl _) (fun k h => by cases h)
 have l1 := l0.later bg
 have m1 := m0.later bg
 have b1 := below_trans b0 bg
 clear hown hgrow bg l0 m0 b0 hi hz0 hz1 hz2 H2 x0 x1 x2 x3 x4 x5 x6 x7 x8 u0 u1 u2
 obtain ⟨g, hg⟩ : ∃ g, w.heap.size + 2 = g := ⟨_, rfl⟩
 have hg0 : w.heap.size ≠ g := by omega
 have hg1 : w.heap.size + 1 ≠ g := by omega
 have hgl : w.heap.size ≤ g := by omega
 rw [hg] at r1 ⊢
 clear hg
 have HSB : Hid (∀ (c a b : Nat) (zs : List Nat) w1, BRow w1 g zs → zs.length = sz → Dg.Small 256 zs → a + b ≤ 8 * sz → c < 18446744073709551616 → Calls Tryz.prog 207 #[.slice (some ⟨g, 0, none⟩) sz sz, .int .i64 (a : Int), .int .i64 (b : Int), .int .u64 (c : Int)] w1 fun z w' => z = .returned (.tuple #[]) ∧ BRow w' g (setB a b c zs) ∧ w1.grownBy w' (some g)) := fun c a b zs w1 h hz hm hab hc => by
  have := csetBits_any g sz zs a b c w1 h hm hc (by omega) (by omega)
  rw [hz] at this
  exact this
 have sm0 : Dg.Small 256 (List.replicate sz 0) := by
  intro i
  by_cases hi : i < sz
  ·simp [List.getD_eq_getElem?_getD, hi]
  ·simp [List.getD_eq_getElem?_getD, hi]
 have ln0 : (List.replicate sz 0).length = sz := List.length_replicate
 have hwe : IntKind.u64.wrap (e : Int) = (e : Int) := IntWalk.u64_in _ ⟨by omega, by omega⟩
 have hwr : IntKind.i64.wrap (1 + (ex : Int)) = 1 + (ex : Int) := IntWalk.i64_in _ ⟨by omega, by omega⟩
 have HN : Hid _ := hfr
 have ln1 : (setB 0 1 1 (List.replicate sz 0)).length = sz := by rw [setB_len]; exact ln0
 have sm1 : Dg.Small 256 (setB 0 1 1 (List.replicate sz 0)) := setB_small _ _ _ _ sm0
 have hs0 := HSB.out 1 0 1 (List.replicate sz 0) _ r1 ln0 sm0 (by omega) (by omega)
 have HS0 : Hid _ := hs0
 clear hs0
 obtain ⟨x0, x1, x2, x3, x4, x5, x6, x7, x8⟩ := l1.cs9
 obtain ⟨u0, u1, u2⟩ := m1.cs3
 go_wp2_with fail
 refine Calls.mono HS0.out ?_
 rintro z w2 ⟨rfl, r2, g2⟩
 have l2 := l1.grown g2 hg0
 have m2 := m1.grown g2 hg1
 have b2 := b1.grown g2 b1.size (fun k h => by cases h; exact hgl)
 clear x0 x1 x2 x3 x4 x5 x6 x7 x8 u0 u1 u2 l1 m1 b1 g2 HS0 r1
 obtain ⟨z2, hz2⟩ : ∃ z, setB 1 ex e (setB 0 1 1 (List.replicate sz 0)) = z := ⟨_, rfl⟩
 obtain ⟨z3, hz3⟩ : ∃ z, setB (1 + ex) fr f z2 = z := ⟨_, rfl⟩
 have ln2 : z2.length = sz := by rw [← hz2, setB_len]; exact ln1
 have sm2 : Dg.Small 256 z2 := by rw [← hz2]; exact setB_small _ _ _ _ sm1
 have hs1 := HSB.out e 1 ex (setB 0 1 1 (List.replicate sz 0)) _ r2 ln1 sm1 (by omega) (by omega)
 have HS3 : Hid (∀ w1, BRow w1 g z2 → Calls Tryz.prog 207 #[.slice (some ⟨g, 0, none⟩) sz sz, .int .i64 (1 + (ex : Int)), .int .i64 (fr : Int), .int .u64 (f : Int)] w1 fun z w' => z = .returned (.tuple #[]) ∧ BRow w' g z3 ∧ w1.grownBy w' (some g)) := fun w1 h => by
  have := HSB.out f (1 + ex) fr z2 w1 h ln2 sm2 (by omega) hf
  rw [hz3, show (((1 + ex : Nat) : Nat) : Int) = 1 + (ex : Int) from by omega] at this
  exact this
 rw [hz2, hz3] at HT'
 rw [hz2] at hs1
 have HS1 : Hid _ := hs1
 clear hs1 hz2 hz3 sm2 ln2 sm0 ln0 HSB hfr ln1 sm1
 obtain ⟨x0, x1, x2, x3, x4, x5, x6, x7, x8⟩ := l2.cs9
 obtain ⟨u0, u1, u2⟩ := m2.cs3
 go_wp2_with fail
 refine Calls.mono HS1.out ?_
 rintro z w3 ⟨rfl, r3, g3⟩
 have l3 := (l2.grown g3 hg0).drew
 have m3 := (m2.grown g3 hg1).drew
 have b3 := (b2.grown g3 b2.size (fun k h => by cases h; exact hgl)).drew
 have r3d := r3.drew
 clear x0 x1 x2 x3 x4 x5 x6 x7 x8 u0 u1 u2 l2 m2 b2 g3 HS1 r3 r2
 obtain ⟨x0, x1, x2, x3, x4, x5, x6, x7, x8⟩ := l3.cs9
 obtain ⟨u0, u1, u2⟩ := m3.cs3
 go_wp2_with fail
 go_region_held3 (fun wq => (wq.cell? ⟨w.heap.size, 0, none⟩ = some (.int .i64 (R : Int)) ∧ wq.cell? ⟨w.heap.size, 1, none⟩ = some (.int .i64 D) ∧ wq.cell? ⟨w.heap.size, 2, none⟩ = some (.int .i64 L) ∧ wq.cell? ⟨w.heap.size, 3, none⟩ = some (.int .i64 G) ∧ wq.cell? ⟨w.heap.size, 4, none⟩ = some (.bool gr) ∧ wq.cell? ⟨w.heap.size, 5, none⟩ = some (.int .i64 (sz : Int)) ∧ wq.cell? ⟨w.heap.size, 6, none⟩ = some (.int .i64 (ex : Int)) ∧ wq.cell? ⟨w.heap.size, 7, none⟩ = some (.int .i64 fam) ∧ wq.cell? ⟨w.heap.size, 8, none⟩ = some (.func (.func F) #[] #[])) ∧ (wq.cell? ⟨w.heap.size + 1, 0, none⟩ = some (.bool true) ∧ wq.cell? ⟨w.heap.size + 1, 1, none⟩ = some (.int .i64 (e : Int)) ∧ wq.cell? ⟨w.heap.size + 1, 2, none⟩ = some (.int .u64 (f : Int)))) (go_keep) (first
  | (go_at_call 197; refine (HFR'.out _).mono ?_; rintro z w4 ⟨rfl, b4⟩; have l4 := l3.later b4; have m4 := m3.later b4; have b04 := below_trans b3 b4; have r4 := r3d.later b4; obtain ⟨y0, y1, y2, y3, y4, y5, y6, y7, y8⟩ := l4.cs9; obtain ⟨v0, v1, v2⟩ := m4.cs3)
  | (go_at_call 207; refine (HS3.out _ r4).mono ?_; rintro z w5 ⟨rfl, r5, g5⟩; have l5 := l4.grown g5 hg0; have m5 := m4.grown g5 hg1; have b05 := b04.grown g5 b04.size (fun k h => by cases h; exact hgl); obtain ⟨t0, t1, t2, t3, t4, t5, t6, t7, t8⟩ := l5.cs9; obtain ⟨s0, s1, s2⟩ := m5.cs3))
 go_wp2_with fail
 refine (HT'.out _ _ _ r5).mono ?_
 rintro z w6 ⟨rfl, r6, g6⟩
 have b06 := b05.grown g6 b05.size (fun k h => by cases h; exact hgl)
 have hcv := convert_brow (cap := sz) 110 9 Tryz.underlying110 Tryz.underlying5 Tryz.underlying9 r6
 rw [hts] at hcv
 go_wp2
 go_ret
 exact ⟨rfl, b06⟩
set_option maxHeartbeats 6400000 in
theorem cwrite_false (R D L G fam : Int) (gr : Bool) (sz ex fr : Nat) (F : Nat) (e f : Nat) (ts : List Nat) (w : World) (hfr : 1 + ex + fr = 8 * sz) (hex : ex ≤ 15) (hsz : sz ≤ 10) (he : e < 65536) (hf : f < 18446744073709551616) (hts : ts.length = sz)
  (HT : ∀ g cap w1, BRow w1 g (setB (1 + ex) fr f (setB 1 ex e (List.replicate sz 0))) → Calls Tryz.prog F #[.slice (some ⟨g, 0, none⟩) sz cap] w1 fun z w' => z = .returned (.tuple #[]) ∧ BRow w' g ts ∧ w1.grownBy w' (some g))
  (HFR : ∀ w1, Calls Tryz.prog 197 #[.agg #[.int .i64 R, .int .i64 D, .int .i64 L, .int .i64 G, .bool gr, .int .i64 (sz : Int), .int .i64 (ex : Int), .int .i64 fam, .func (.func F) #[] #[]]] w1 fun z w' => z = .returned (.int .i64 (fr : Int)) ∧ Below w1.heap.size w1 w')
  (HE : ∀ args W, Sem.run Tryz.prog (callFunc F args) W = .ok (.enter F args) W) :
  Calls Tryz.prog 158 #[.agg #[.int .i64 R, .int .i64 D, .int .i64 L, .int .i64 G, .bool gr, .int .i64 (sz : Int), .int .i64 (ex : Int), .int .i64 fam, .func (.func F) #[] #[]], .agg #[.bool false, .int .i64 (e : Int), .int .u64 (f : Int)]] w fun z w' => z = .returned (.string (strOf ts)) ∧ Below w.heap.size w w' := by
 have hsf := hsf_z
 have l0 := (locE_new w [.int .i64 R, .int .i64 D, .int .i64 L, .int .i64 G, .bool gr, .int .i64 (sz : Int), .int .i64 (ex : Int), .int .i64 fam, .func (.func F) #[] #[]] 144).later (below_alloc _ (.cells #[.bool false, .int .i64 (e : Int), .int .u64 (f : Int)] 147))
 have m0 := locE_new (w.alloc (.cells #[.int .i64 R, .int .i64 D, .int .i64 L, .int .i64 G, .bool gr, .int .i64 (sz : Int), .int .i64 (ex : Int), .int .i64 fam, .func (.func F) #[] #[]] 144)) [.bool false, .int .i64 (e : Int), .int .u64 (f : Int)] 147
 have b0 := below_trans (below_alloc w (.cells #[.int .i64 R, .int .i64 D, .int .i64 L, .int .i64 G, .bool gr, .int .i64 (sz : Int), .int .i64 (ex : Int), .int .i64 fam, .func (.func F) #[] #[]] 144)) (below_alloc _ (.cells #[.bool false, .int .i64 (e : Int), .int .u64 (f : Int)] 147))
 rw [World.size_alloc] at m0
 have H2 : ((w.alloc (.cells #[.int .i64 R, .int .i64 D, .int .i64 L, .int .i64 G, .bool gr, .int .i64 (sz : Int), .int .i64 (ex : Int), .int .i64 fam, .func (.func F) #[] #[]] 144)).alloc (.cells #[.bool false, .int .i64 (e : Int), .int .u64 (f : Int)] 147)).heap.size = w.heap.size + 2 := by rw [World.size_alloc, World.size_alloc]
 obtain ⟨i0, hi, hz0, hz1, hz2⟩ := info_parts Tryz.infoU8
 have HT' : Hid _ := HT
 have HFR' : Hid _ := HFR
 clear HT HFR
 obtain ⟨x0, x1, x2, x3, x4, x5, x6, x7, x8⟩ := l0.cs9
 obtain ⟨u0, u1, u2⟩ := m0.cs3
 go_enter Tryz.func158, Tryz.ntmps158
 go_wp2_with (at_make; refine wpList_make_full _ rfl _ _ 110 rfl (w.heap.size + 2) 5 i0 (.int .u8 0) 1 Tryz.underlying110 hi hz0 hz1 _ _ _ _ sz rfl rfl (by omega) (by omega) ?b2 ?b3 (Nat.le_of_eq H2.symm) ?_)
 case b2 => rw [hz2]; omega
 case b3 => unfold maxLen; omega
 intro w1 hown hgrow
 have r1 := own_brow (own_made hown)
 have bg := (Below.refl _ _).grown hgrow (Nat.le_refl _) (fun k h => by cases h)
 have l1 := l0.later bg
 have m1 := m0.later bg
 have b1 := below_trans b0 bg
 clear hown hgrow bg l0 m0 b0 hi hz0 hz1 hz2 H2 x0 x1 x2 x3 x4 x5 x6 x7 x8 u0 u1 u2
 obtain ⟨g, hg⟩ : ∃ g, w.heap.size + 2 = g := ⟨_, rfl⟩
 have hg0 : w.heap.size ≠ g := by omega
 have hg1 : w.heap.size + 1 ≠ g := by omega
 have hgl : w.heap.size ≤ g := by omega
 rw [hg] at r1 ⊢
 clear hg
 have HSB : Hid (∀ (c a b : Nat) (zs : List Nat) w1, BRow w1 g zs → zs.length = sz → Dg.Small 256 zs → a + b ≤ 8 * sz → c < 18446744073709551616 → Calls Tryz.prog 207 #[.slice (some ⟨g, 0, none⟩) sz sz, .int .i64 (a : Int), .int .i64 (b : Int), .int .u64 (c : Int)] w1 fun z w' => z = .returned (.tuple #[]) ∧ BRow w' g (setB a b c zs) ∧ w1.grownBy w' (some g)) := fun c a b zs w1 h hz hm hab hc => by
  have := csetBits_any g sz zs a b c w1 h hm hc (by omega) (by omega)
  rw [hz] at this
  exact this
 have sm0 : Dg.Small 256 (List.replicate sz 0) := by
  intro i
  by_cases hi : i < sz
  ·simp [List.getD_eq_getElem?_getD, hi]
  ·simp [List.getD_eq_getElem?_getD, hi]
 have ln0 : (List.replicate sz 0).length = sz := List.length_replicate
 have hwe : IntKind.u64.wrap (e : Int) = (e : Int) := IntWalk.u64_in _ ⟨by omega, by omega⟩
 have hwr : IntKind.i64.wrap (1 + (ex : Int)) = 1 + (ex : Int) := IntWalk.i64_in _ ⟨by omega, by omega⟩
 have HN : Hid _ := hfr
 obtain ⟨z2, hz2⟩ : ∃ z, setB 1 ex e (List.replicate sz 0) = z := ⟨_, rfl⟩
 obtain ⟨z3, hz3⟩ : ∃ z, setB (1 + ex) fr f z2 = z := ⟨_, rfl⟩
 have ln2 : z2.length = sz := by rw [← hz2, setB_len]; exact ln0
 have sm2 : Dg.Small 256 z2 := by rw [← hz2]; exact setB_small _ _ _ _ sm0
 have hs1 := HSB.out e 1 ex (List.replicate sz 0) _ r1 ln0 sm0 (by omega) (by omega)
 have HS3 : Hid (∀ w1, BRow w1 g z2 → Calls Tryz.prog 207 #[.slice (some ⟨g, 0, none⟩) sz sz, .int .i64 (1 + (ex : Int)), .int .i64 (fr : Int), .int .u64 (f : Int)] w1 fun z w' => z = .returned (.tuple #[]) ∧ BRow w' g z3 ∧ w1.grownBy w' (some g)) := fun w1 h => by
  have := HSB.out f (1 + ex) fr z2 w1 h ln2 sm2 (by omega) hf
  rw [hz3, show (((1 + ex : Nat) : Nat) : Int) = 1 + (ex : Int) from by omega] at this
  exact this
 rw [hz2, hz3] at HT'
 rw [hz2] at hs1
 have HS1 : Hid _ := hs1
 clear hs1 hz2 hz3 sm2 ln2 sm0 ln0 HSB hfr
 obtain ⟨x0, x1, x2, x3, x4, x5, x6, x7, x8⟩ := l1.cs9
 obtain ⟨u0, u1, u2⟩ := m1.cs3
 go_wp2_with fail
 refine Calls.mono HS1.out ?_
 rintro z w3 ⟨rfl, r3, g3⟩
 have l3 := (l1.grown g3 hg0).drew
 have m3 := (m1.grown g3 hg1).drew
 have b3 := (b1.grown g3 b1.size (fun k h => by cases h; exact hgl)).drew
 have r3d := r3.drew
 clear x0 x1 x2 x3 x4 x5 x6 x7 x8 u0 u1 u2 l1 m1 b1 g3 HS1 r3 r1
 obtain ⟨x0, x1, x2, x3, x4, x5, x6, x7, x8⟩ := l3.cs9
 obtain ⟨u0, u1, u2⟩ := m3.cs3
 go_wp2_with fail
 go_region_held3 (fun wq => (wq.cell? ⟨w.heap.size, 0, none⟩ = some (.int .i64 (R : Int)) ∧ wq.cell? ⟨w.heap.size, 1, none⟩ = some (.int .i64 D) ∧ wq.cell? ⟨w.heap.size, 2, none⟩ = some (.int .i64 L) ∧ wq.cell? ⟨w.heap.size, 3, none⟩ = some (.int .i64 G) ∧ wq.cell? ⟨w.heap.size, 4, none⟩ = some (.bool gr) ∧ wq.cell? ⟨w.heap.size, 5, none⟩ = some (.int .i64 (sz : Int)) ∧ wq.cell? ⟨w.heap.size, 6, none⟩ = some (.int .i64 (ex : Int)) ∧ wq.cell? ⟨w.heap.size, 7, none⟩ = some (.int .i64 fam) ∧ wq.cell? ⟨w.heap.size, 8, none⟩ = some (.func (.func F) #[] #[])) ∧ (wq.cell? ⟨w.heap.size + 1, 0, none⟩ = some (.bool false) ∧ wq.cell? ⟨w.heap.size + 1, 1, none⟩ = some (.int .i64 (e : Int)) ∧ wq.cell? ⟨w.heap.size + 1, 2, none⟩ = some (.int .u64 (f : Int)))) (go_keep) (first
  | (go_at_call 197; refine (HFR'.out _).mono ?_; rintro z w4 ⟨rfl, b4⟩; have l4 := l3.later b4; have m4 := m3.later b4; have b04 := below_trans b3 b4; have r4 := r3d.later b4; obtain ⟨y0, y1, y2, y3, y4, y5, y6, y7, y8⟩ := l4.cs9; obtain ⟨v0, v1, v2⟩ := m4.cs3)
  | (go_at_call 207; refine (HS3.out _ r4).mono ?_; rintro z w5 ⟨rfl, r5, g5⟩; have l5 := l4.grown g5 hg0; have m5 := m4.grown g5 hg1; have b05 := b04.grown g5 b04.size (fun k h => by cases h; exact hgl); obtain ⟨t0, t1, t2, t3, t4, t5, t6, t7, t8⟩ := l5.cs9; obtain ⟨s0, s1, s2⟩ := m5.cs3))
 go_wp2_with fail
 refine (HT'.out _ _ _ r5).mono ?_
 rintro z w6 ⟨rfl, r6, g6⟩
 have b06 := b05.grown g6 b05.size (fun k h => by cases h; exact hgl)
 have hcv := convert_brow (cap := sz) 110 9 Tryz.underlying110 Tryz.underlying5 Tryz.underlying9 r6
 rw [hts] at hcv
 go_wp2
 go_ret
 exact ⟨rfl, b06⟩
def wrtB (k : Nat) (ng : Bool) (e f : Nat) : List Nat := turnB k (setB (1 + exN k) (frN k) f (setB 1 (exN k) e (if ng then setB 0 1 1 (List.replicate (szN k) 0) else List.replicate (szN k) 0)))
theorem wrtB_len (k : Nat) (ng : Bool) (e f : Nat) : (wrtB k ng e f).length = szN k := by
 unfold wrtB
 rw [turnB_len, setB_len, setB_len]
 split
 ·rw [setB_len, List.length_replicate]
 ·rw [List.length_replicate]
theorem cwrite_any (k : Nat) (hk : 1 ≤ k ∧ k ≤ 8) (ng : Bool) (e f : Nat) (w : World) (he : e < 65536) (hf : f < 18446744073709551616) :
  Calls Tryz.prog 158 #[.agg (layV k).toArray, .agg #[.bool ng, .int .i64 (e : Int), .int .u64 (f : Int)]] w fun z w' => z = .returned (.string (strOf (wrtB k ng e f))) ∧ Below w.heap.size w w' := by
 obtain ⟨h1, h2, h3, h4, h5, -⟩ := sizes_fit hk
 have hl := wrtB_len k ng e f
 have HF := fun w1 => lfraction_any k hk w1
 have HE := fun args W => turnF_enter k args W
 have HT := fun zs (hz : zs.length = szN k) g cap w1 h => turnF_any k g cap zs w1 h (by omega) (by rw [hz]; exact h5)
 cases ng
 ·have HT' : ∀ g cap w1, BRow w1 g (setB (1 + exN k) (frN k) f (setB 1 (exN k) e (List.replicate (szN k) 0))) → Calls Tryz.prog (turnF k) #[.slice (some ⟨g, 0, none⟩) (szN k) cap] w1 fun z w' => z = .returned (.tuple #[]) ∧ BRow w' g (wrtB k false e f) ∧ w1.grownBy w' (some g) := fun g cap w1 h => by
   have hz : (setB (1 + exN k) (frN k) f (setB 1 (exN k) e (List.replicate (szN k) 0))).length = szN k := by rw [setB_len, setB_len, List.length_replicate]
   have := HT _ hz g cap w1 h
   rw [hz] at this
   exact this
  rcases eight hk with rfl | rfl | rfl | rfl | rfl | rfl | rfl | rfl
  all_goals exact cwrite_false _ _ _ _ _ _ _ _ _ _ e f _ w h1 h2 h3 he hf hl HT' HF HE
 ·have HT' : ∀ g cap w1, BRow w1 g (setB (1 + exN k) (frN k) f (setB 1 (exN k) e (setB 0 1 1 (List.replicate (szN k) 0)))) → Calls Tryz.prog (turnF k) #[.slice (some ⟨g, 0, none⟩) (szN k) cap] w1 fun z w' => z = .returned (.tuple #[]) ∧ BRow w' g (wrtB k true e f) ∧ w1.grownBy w' (some g) := fun g cap w1 h => by
   have hz : (setB (1 + exN k) (frN k) f (setB 1 (exN k) e (setB 0 1 1 (List.replicate (szN k) 0)))).length = szN k := by rw [setB_len, setB_len, setB_len, List.length_replicate]
   have := HT _ hz g cap w1 h
   rw [hz] at this
   exact this
  rcases eight hk with rfl | rfl | rfl | rfl | rfl | rfl | rfl | rfl
  all_goals exact cwrite_true _ _ _ _ _ _ _ _ _ _ e f _ w h1 h2 h3 he hf hl HT' HF HE
end Go.Proofs.YtnhackdjplppjaaGreatDoor

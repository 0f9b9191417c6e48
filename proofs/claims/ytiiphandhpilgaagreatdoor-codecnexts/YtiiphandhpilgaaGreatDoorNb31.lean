/-
  Texts laid together: Cr1, Cr2, Cr3.
-/
import Derived.Test.YtiiphandhpilgaaGreatDoorNb30
set_option maxRecDepth 100000
namespace Go.Proofs.YtiiphandhpilgaaGreatDoor
open Go.RowKit
def fmtV : Nat → List Value
 | 1 => [.int .i64 4, .int .i64 8, .int .i64 23, .int .i64 2, .int .i64 24, .int .i64 (-149), .int .i64 104, .bool true, .int .i64 1]
 | 2 => [.int .i64 8, .int .i64 11, .int .i64 52, .int .i64 2, .int .i64 53, .int .i64 (-1074), .int .i64 971, .bool true, .int .i64 1]
 | 3 => [.int .i64 10, .int .i64 15, .int .i64 64, .int .i64 2, .int .i64 64, .int .i64 (-16445), .int .i64 16320, .bool true, .int .i64 1]
 | 4 => [.int .i64 4, .int .i64 7, .int .i64 24, .int .i64 16, .int .i64 6, .int .i64 (-70), .int .i64 57, .bool false, .int .i64 2]
 | 5 => [.int .i64 8, .int .i64 7, .int .i64 56, .int .i64 16, .int .i64 14, .int .i64 (-78), .int .i64 49, .bool false, .int .i64 2]
 | 6 => [.int .i64 4, .int .i64 8, .int .i64 23, .int .i64 2, .int .i64 24, .int .i64 (-151), .int .i64 103, .bool false, .int .i64 3]
 | 7 => [.int .i64 8, .int .i64 8, .int .i64 55, .int .i64 2, .int .i64 56, .int .i64 (-183), .int .i64 71, .bool false, .int .i64 3]
 | 8 => [.int .i64 8, .int .i64 11, .int .i64 52, .int .i64 2, .int .i64 53, .int .i64 (-1076), .int .i64 970, .bool false, .int .i64 3]
 | _ => [.int .i64 0, .int .i64 0, .int .i64 0, .int .i64 0, .int .i64 0, .int .i64 0, .int .i64 0, .bool false, .int .i64 0]
theorem format_any (k : Nat) (hk : 1 ≤ k ∧ k ≤ 8) (w : World) : Calls Tryz.prog 12 #[.int .i64 (k : Int)] w fun z w' => z = .returned (.tuple #[.agg (fmtV k).toArray, .bool true]) ∧ Below w.heap.size w w' := by
 rcases eight hk with rfl | rfl | rfl | rfl | rfl | rfl | rfl | rfl
 ·exact format_1 w
 ·exact format_2 w
 ·exact format_3 w
 ·exact format_4 w
 ·exact format_5 w
 ·exact format_6 w
 ·exact format_7 w
 ·exact format_8 w
def plN (k i : Nat) : Nat := if k = 3 then szN k - 1 - i else if 6 ≤ k then i + 1 - 2 * (i % 2) else i
theorem plN_at (k : Nat) (zs : List Nat) (i : Nat) (hk : zs.length = szN k) (hi : i < zs.length) : (turnB k zs).getD i 0 = zs.getD (plN k i) 0 := by
 unfold turnB plN
 by_cases h3 : k = 3
 ·rw [if_pos h3, if_pos h3, List.getD_eq_getElem?_getD, List.getElem?_reverse hi, ← List.getD_eq_getElem?_getD, hk]
 ·rw [if_neg h3, if_neg h3]
  by_cases h6 : 6 ≤ k
  ·rw [if_pos h6, if_pos h6, turnW_at zs i hi]
  ·rw [if_neg h6, if_neg h6]
theorem plN_lt {k i : Nat} (hk : 1 ≤ k ∧ k ≤ 8) (hi : i < szN k) : plN k i < szN k := by
 obtain ⟨m, hm⟩ := (sizes_fit hk).2.2.2.2.1
 unfold plN
 split
 ·omega
 ·split <;> omega
set_option maxHeartbeats 1600000 in
theorem place_W (n : Int) (sz ex fr : Nat) (R D L G fam : Int) (gr : Bool) (i : Nat) (w : World) (hi : i < sz) (hsz : sz ≤ 10)
  (HF : ∀ w1, Calls Tryz.prog 12 #[.int .i64 n] w1 fun z w' => z = .returned (.tuple #[.agg #[.int .i64 (sz : Int), .int .i64 (ex : Int), .int .i64 (fr : Int), .int .i64 R, .int .i64 D, .int .i64 L, .int .i64 G, .bool gr, .int .i64 fam], .bool true]) ∧ Below w1.heap.size w1 w') :
  Calls Tryz.prog 63 #[.int .i64 n, .int .i64 (i : Int)] w fun z w' => z = .returned (.int .i64 (if n = 3 then (sz : Int) - 1 - i else if fam = 3 then (i : Int) + 1 - 2 * ((i : Int) % 2) else (i : Int))) ∧ Below w.heap.size w w' := by
 have HF' : Hid _ := HF
 clear HF
 by_cases h3 : n = 3
 ·subst h3
  rw [if_pos rfl]
  go_enter Tryz.func63, Tryz.ntmps63
  go_wp2_with fail
  refine (HF'.out _).mono ?_
  rintro z w1 ⟨rfl, b1⟩
  go_wp2
  go_ret
  exact ⟨by go_num, below_trans b1 (below_alloc _ _)⟩
 ·have hn : (n == 3) = false := by simpa using h3
  rw [if_neg h3]
  by_cases hf : fam = 3
  ·subst hf
   rw [if_pos rfl]
   clear h3
   go_enter Tryz.func63, Tryz.ntmps63
   go_wp2_with fail
   refine (HF'.out _).mono ?_
   rintro z w1 ⟨rfl, b1⟩
   go_wp2
   go_ret
   exact ⟨by go_num, below_trans b1 (below_alloc _ _)⟩
  ·have hfb : (fam == 3) = false := by simpa using hf
   rw [if_neg hf]
   clear h3 hf
   go_enter Tryz.func63, Tryz.ntmps63
   go_wp2_with fail
   refine (HF'.out _).mono ?_
   rintro z w1 ⟨rfl, b1⟩
   go_wp2
   go_ret
   exact ⟨rfl, below_trans b1 (below_alloc _ _)⟩
theorem place_any (k : Nat) (hk : 1 ≤ k ∧ k ≤ 8) (i : Nat) (hi : i < szN k) (w : World) : Calls Tryz.prog 63 #[.int .i64 (k : Int), .int .i64 (i : Int)] w fun z w' => z = .returned (.int .i64 ((plN k i : Nat) : Int)) ∧ Below w.heap.size w w' := by
 have HF := fun w1 => format_any k hk w1
 have hsz := (sizes_fit hk).2.2.1
 have key : ∀ x : Int, ((plN k i : Nat) : Int) = x → Calls Tryz.prog 63 #[.int .i64 (k : Int), .int .i64 (i : Int)] w (fun z w' => z = .returned (.int .i64 x) ∧ Below w.heap.size w w') → Calls Tryz.prog 63 #[.int .i64 (k : Int), .int .i64 (i : Int)] w (fun z w' => z = .returned (.int .i64 ((plN k i : Nat) : Int)) ∧ Below w.heap.size w w') := fun x hx h => by rw [hx]; exact h
 rcases eight hk with rfl | rfl | rfl | rfl | rfl | rfl | rfl | rfl
 ·exact key _ (by unfold plN; simp) (place_W _ _ _ _ _ _ _ _ _ _ i w hi hsz HF)
 ·exact key _ (by unfold plN; simp) (place_W _ _ _ _ _ _ _ _ _ _ i w hi hsz HF)
 ·exact key _ (by unfold plN; simp only [szN] at hi ⊢; simp; omega) (place_W _ _ _ _ _ _ _ _ _ _ i w hi hsz HF)
 ·exact key _ (by unfold plN; simp) (place_W _ _ _ _ _ _ _ _ _ _ i w hi hsz HF)
 ·exact key _ (by unfold plN; simp) (place_W _ _ _ _ _ _ _ _ _ _ i w hi hsz HF)
 ·exact key _ (by unfold plN; simp; omega) (place_W _ _ _ _ _ _ _ _ _ _ i w hi hsz HF)
 ·exact key _ (by unfold plN; simp; omega) (place_W _ _ _ _ _ _ _ _ _ _ i w hi hsz HF)
 ·exact key _ (by unfold plN; simp; omega) (place_W _ _ _ _ _ _ _ _ _ _ i w hi hsz HF)
set_option maxHeartbeats 1600000 in
theorem open_none (n : Int) (s : ByteArray) (w : World) (h : famC n = 0) : Calls Tryz.prog 11 #[.int .i64 n, .string s] w fun z w' => z = .returned (.int .i64 6) ∧ Below w.heap.size w w' := by
 have HF : Hid (∀ w1, Calls Tryz.prog 12 #[.int .i64 n] w1 fun z w' => z = .returned (.tuple #[.agg #[.int .i64 0, .int .i64 0, .int .i64 0, .int .i64 0, .int .i64 0, .int .i64 0, .int .i64 0, .bool false, .int .i64 0], .bool false]) ∧ Below w1.heap.size w1 w') := fun w1 => format_none n w1 h
 clear h
 go_enter Tryz.func11, Tryz.ntmps11
 go_wp2_with fail
 refine (HF.out _).mono ?_
 rintro z w1 ⟨rfl, b1⟩
 go_wp2
 go_ret
 exact ⟨rfl, below_trans b1 (below_alloc _ _)⟩
set_option maxHeartbeats 1600000 in
theorem open_W (n : Int) (sz ex fr : Nat) (R D L G fam : Int) (gr : Bool) (s : ByteArray) (w : World)
  (HF : ∀ w1, Calls Tryz.prog 12 #[.int .i64 n] w1 fun z w' => z = .returned (.tuple #[.agg #[.int .i64 (sz : Int), .int .i64 (ex : Int), .int .i64 (fr : Int), .int .i64 R, .int .i64 D, .int .i64 L, .int .i64 G, .bool gr, .int .i64 fam], .bool true]) ∧ Below w1.heap.size w1 w') :
  Calls Tryz.prog 11 #[.int .i64 n, .string s] w fun z w' => z = .returned (.int .i64 (if s.size = sz then 0 else 1)) ∧ Below w.heap.size w w' := by
 have HF' : Hid _ := HF
 clear HF
 by_cases hs : s.size = sz
 ·rw [if_pos hs]
  go_enter Tryz.func11, Tryz.ntmps11
  go_wp2_with fail
  refine (HF'.out _).mono ?_
  rintro z w1 ⟨rfl, b1⟩
  go_wp2
  go_ret
  exact ⟨rfl, below_trans b1 (below_alloc _ _)⟩
 ·rw [if_neg hs]
  have hb : ((s.size : Int) == (sz : Int)) = false := by simp; omega
  clear hs
  go_enter Tryz.func11, Tryz.ntmps11
  go_wp2_with fail
  refine (HF'.out _).mono ?_
  rintro z w1 ⟨rfl, b1⟩
  go_wp2
  go_ret
  exact ⟨rfl, below_trans b1 (below_alloc _ _)⟩
end Go.Proofs.YtiiphandhpilgaaGreatDoor
namespace Go.Proofs.YtiiphandhpilgaaGreatDoor
open Go.RowKit
def OwnB (w : World) (base : Nat) (v : Value) (bs : List Bool) : Prop := w.ownsRow base 4 1 v bs.length (bs.map Value.bool)
theorem Tryz.infoB : (Tryz.prog.info? 4).map (fun i => (i.zero, i.size, i.bytes)) = some (some (.bool false), 1, 1) := by kernel_rfl
def bitsL (ts : List Nat) : Nat → List Bool
 | 0 => []
 | n + 1 => bitsL ts n ++ [decide (bitB ts n = 1)]
theorem bitsL_len (ts : List Nat) : ∀ n, (bitsL ts n).length = n
 | 0 => rfl
 | n + 1 => by rw [bitsL, List.length_append, bitsL_len ts n]; rfl
theorem bitsL_at (ts : List Nat) : ∀ n i, i < n → (bitsL ts n)[i]? = some (decide (bitB ts i = 1))
 | 0, _, h => absurd h (Nat.not_lt_zero _)
 | n + 1, i, h => by
  rw [bitsL]
  by_cases hi : i < n
  ·rw [List.getElem?_append_left (by rw [bitsL_len]; exact hi)]
   exact bitsL_at ts n i hi
  ·have : i = n := by omega
   subst this
   rw [List.getElem?_append_right (by rw [bitsL_len]; exact Nat.le_refl _), bitsL_len, Nat.sub_self]
   rfl
theorem index_bytes {P : Program} (t : TypeId) (s : ByteArray) (p : Nat) (h : P.underlying t = some .string) (hp : p < s.size) (W : World) :
  (Instr.index t (.string s) (.int .i64 (p : Int))).run P W = .ok (.int .u8 (((bytesOf s).getD p 0 : Nat) : Int)) W := by
 rw [run_index_string W t s .i64 (p : Int) h, dif_pos ⟨by omega, by omega⟩]
 congr 2
 have hp' : p < s.data.size := hp
 rw [bytesOf, List.getD_eq_getElem?_getD, List.getElem?_map, Array.getElem?_toList, Array.getElem?_eq_getElem hp']
 rfl
theorem ownB_append {w wr w3 : World} {x : Bool} {es : List Bool} {lv v' : Value} (bel : Below w.heap.size w wr) (ownL : OwnB wr w.heap.size lv es)
  (hown' : w3.ownsRow w.heap.size 4 1 v' (es.length + 1) ((es.map Value.bool) ++ [.bool x]))
  (hgrow : (wr.alloc (.cells #[.bool x] 4)).grownBy w3 lv.ownBlock) :
  OwnB w3 w.heap.size v' (es ++ [x]) ∧ Below w.heap.size w w3 := by
 have b1 : Below wr.heap.size wr (wr.alloc (.cells #[.bool x] 4)) := (Below.refl _ _).alloc (Nat.le_refl _) _
 refine ⟨?_, ?_⟩
 ·unfold OwnB
  simpa using hown'
 ·refine (below_trans bel b1).grown hgrow (Nat.le_trans bel.size b1.size) (fun k hk => ?_)
  exact (World.ownsRow.lt ownL k hk).1
theorem OwnB.later {w w' : World} {base : Nat} {v : Value} {bs : List Bool} (h : OwnB w base v bs) (hb : Below w.heap.size w w') : OwnB w' base v bs := by
 obtain ⟨hl, h2⟩ := h
 refine ⟨hl, ?_⟩
 rcases h2 with h2 | ⟨g, cap, cur, hv, hbg, hh, r⟩
 ·exact .inl h2
 ·refine .inr ⟨g, cap, cur, hv, hbg, ?_, r⟩
  rw [hb.block g ?_]
  ·exact hh
  ·rw [Array.getElem?_eq_some_iff] at hh
   exact hh.1
theorem half_step : ∀ j, j < 8 → 2 ^ (7 - j) / 2 = if j + 1 < 8 then 2 ^ (7 - (j + 1)) else 0 := by decide
set_option maxHeartbeats 6400000 in
theorem bitsOf_any (k : Nat) (hk : 1 ≤ k ∧ k ≤ 8) (s : ByteArray) (w : World) (hs : s.size = szN k) :
  Calls Tryz.prog 43 #[.int .i64 (k : Int), .string s] w fun z w' => ∃ v, z = .returned v ∧ OwnB w' w.heap.size v (bitsL (fldB k s) (8 * szN k)) ∧ Below w.heap.size w w' := by
 obtain ⟨i0, hi, hz0, hz1, hz2⟩ := info_parts Tryz.infoB
 have HP : Hid (∀ (i : Nat) w1, i < szN k → Calls Tryz.prog 63 #[.int .i64 (k : Int), .int .i64 (i : Int)] w1 fun z w' => z = .returned (.int .i64 ((plN k i : Nat) : Int)) ∧ Below w1.heap.size w1 w') := fun i w1 h => place_any k hk i h w1
 have HX : Hid (∀ p W, p < s.size → (Instr.index 9 (.string s) (.int .i64 (p : Int))).run Tryz.prog W = .ok (.int .u8 (((bytesOf s).getD p 0 : Nat) : Int)) W) := fun p W h => index_bytes 9 s p Tryz.underlying9 h W
 have HT : Hid (∀ i, i < szN k → (fldB k s).getD i 0 = (bytesOf s).getD (plN k i) 0 ∧ plN k i < szN k) := fun i h => ⟨plN_at k _ i (by rw [bytesOf_len, hs]) (by rw [bytesOf_len, hs]; exact h), plN_lt hk h⟩
 have hsm := turnB_small k _ (bytesOf_small s)
 have HSM : Hid (Dg.Small 256 (fldB k s)) := hsm
 have hsz := (sizes_fit hk).2.2.1
 obtain ⟨sz, esz⟩ : ∃ x, szN k = x := ⟨_, rfl⟩
 obtain ⟨ts, ets⟩ : ∃ x, fldB k s = x := ⟨_, rfl⟩
 rw [esz] at HP HT hsz hs ⊢
 rw [ets] at HT HSM ⊢
 clear hsm esz ets hk
 go_enter Tryz.func43, Tryz.ntmps43
 go_wp2
 go_loopw [5, 6] (fun ov iv wr => ∃ i : Nat, i ≤ sz ∧ iv = .int .i64 (i : Int) ∧ OwnB wr w.heap.size ov (bitsL ts (8 * i)) ∧ Below w.heap.size w wr) (fun _ iv _ => sz - (intOf iv).toNat)
 case atStart => exact ⟨0, by omega, rfl, World.ownsRow_nil _ _ _ 1, Below.refl _ _⟩
 case round =>
  obtain ⟨i, hi1, rfl, own, bel⟩ := hrel
  by_cases hlt : i < sz
  ·have hx := HX.out (plN k i)
   obtain ⟨ht1, ht2⟩ := HT.out i hlt
   have hx := fun W => HX.out (plN k i) W (by omega)
   rw [← ht1] at hx
   have hc := HSM.out i
   obtain ⟨c, ec⟩ : ∃ c, ts.getD i 0 = c := ⟨_, rfl⟩
   obtain ⟨pp, ep⟩ : ∃ c, plN k i = c := ⟨_, rfl⟩
   have hp := fun w1 => HP.out i w1 hlt
   rw [ep] at hx hp
   rw [ec] at hx hc
   have HPP : Hid _ := hp
   have HC : Hid (ts.getD i 0 = c) := ec
   have hwc : IntKind.i64.wrap (c : Int) = (c : Int) := IntWalk.i64_in _ ⟨by omega, by omega⟩
   clear hp ht1 ht2 ep ec
   go_wp2_with fail
   refine (HPP.out _).mono ?_
   rintro z w2 ⟨rfl, b2⟩
   have own2 := own.later b2
   have bel2 := below_trans bel b2
   clear own bel b2 HPP
   go_wp2
   go_loopw [5, 8] (fun ov kv wr => ∃ j kk : Nat, j ≤ 8 ∧ Hid (kk = if j < 8 then 2 ^ (7 - j) else 0) ∧ kv = .int .i64 (kk : Int) ∧ kk ≤ 128 ∧ OwnB wr w.heap.size ov (bitsL ts (8 * i + j)) ∧ Below w.heap.size w wr) (fun _ kv _ => (intOf kv).toNat)
   case atStart => exact ⟨0, 128, by omega, rfl, rfl, by omega, own2, bel2⟩
   case round =>
    obtain ⟨j, kk, hj, HK, rfl, hkl, own, bel⟩ := hrel
    by_cases hj8 : j < 8
    ·have hkk : kk = 2 ^ (7 - j) := by have := HK.out; rwa [if_pos hj8] at this
     have hk0 : 0 < kk := by rw [hkk]; exact Nat.pow_pos (by omega)
     obtain ⟨b, eb⟩ : ∃ b, decide (bitB ts (8 * i + j) = 1) = b := ⟨_, rfl⟩
     have hbit : bitB ts (8 * i + j) = c / kk % 2 := by
      unfold bitB
      rw [show (8 * i + j) / 8 = i from by omega, show (8 * i + j) % 8 = j from by omega, HC.out, hkk]
     have hsu : bitsL ts (8 * i + (j + 1)) = bitsL ts (8 * i + j) ++ [b] := by rw [← eb, show 8 * i + (j + 1) = 8 * i + j + 1 from by omega]; rfl
     obtain ⟨r, er⟩ : ∃ r, c / kk % 2 = r := ⟨_, rfl⟩
     obtain ⟨q, eq⟩ : ∃ q, c / kk = q := ⟨_, rfl⟩
     have hqI : (c : Int) / (kk : Int) = (q : Int) := by rw [← eq]; exact (Int.natCast_ediv c kk).symm
     have hql : q < 256 := by rw [← eq]; exact Nat.lt_of_le_of_lt (Nat.div_le_self _ _) hc
     have hrI : (q : Int) % 2 = (r : Int) := by rw [← er, eq]; omega
     have hbI : ((r : Int) == 1) = b := by
      rw [← eb, hbit, er]
      by_cases h : r = 1
      ·subst h; rfl
      ·rw [decide_eq_false h]; simp; omega
     have hkI : ((kk : Int) != 0) = true := by rw [bne_iff_ne]; omega
     have hhf : (kk : Int) / 2 = ((kk / 2 : Nat) : Int) := by omega
     have hst := half_step j hj8
     rw [← hkk] at hst
     have HST : Hid (_ ∧ _) := ⟨hst, hsu⟩
     have hlen := bitsL_len ts (8 * i + j)
     obtain ⟨es, ees⟩ : ∃ es, bitsL ts (8 * i + j) = es := ⟨_, rfl⟩
     rw [ees] at own hlen HST
     have hel : es.length ≤ 200 := by omega
     obtain ⟨kh, ekh⟩ : ∃ x, kk / 2 = x := ⟨_, rfl⟩
     rw [ekh] at hhf HST
     have hkh : kh < kk := by omega
     have hbs := bel.size
     clear eb hbit hsu er eq hst hlen ees ekh hkk HK
     go_wp2_with (at_builtin; refine wpList_append_own _ rfl _ _ 74 rfl w.heap.size 4 i0 (.bool false) 1 1 Tryz.underlying74 hi hz0 hz1 hz2 rfl (by decide) _ _ _ rfl (World.ownsRow.alloc own _) ⟨wr.heap.size, 0, none⟩ 1 1 [.bool b] rfl rfl ?c1 ?c2 ?c3 ?c4 ?c5 ?_)
     case c1 => exact cell_one_new _ _ _
     case c2 => intro u hu; simp at hu; subst hu; rfl
     case c3 => unfold maxLen; omega
     case c4 => omega
     case c5 => simp; omega
     intro v' w3 hown' hgrow _
     have R := ownB_append bel own hown' hgrow
     clear hown' hgrow own
     go_wp2
     go_roundw
     case rel => exact ⟨j + 1, kh, by omega, HST.out.1, rfl, by omega, by rw [HST.out.2]; exact R.1, R.2⟩
     case measure => simp [intOf]; omega
    ·have hk0 : kk = 0 := by have := HK.out; rwa [if_neg hj8] at this
     have HJ : Hid (j = 8) := (by omega : j = 8)
     subst hk0
     go_wp2
     go_roundw
     case rel =>
      have := HJ.out
      subst this
      exact ⟨i + 1, by omega, by go_num, own, bel⟩
     case measure => simp [intOf]; omega
  ·have HI : Hid (i = sz) := (by omega : i = sz)
   go_wp2
   go_ret
   have := HI.out
   subst this
   exact ⟨_, rfl, own, bel⟩
end Go.Proofs.YtiiphandhpilgaaGreatDoor
namespace Go.Proofs.YtiiphandhpilgaaGreatDoor
open Go.RowKit
def valB (bf : Nat → Bool) : Nat → Nat
 | 0 => 0
 | n + 1 => valB bf n * 2 + if bf n then 1 else 0
theorem valB_lt (bf : Nat → Bool) : ∀ n, valB bf n < 2 ^ n
 | 0 => by simp [valB]
 | n + 1 => by
  have := valB_lt bf n
  rw [valB, Nat.pow_succ]
  split <;> omega
theorem valB_bits (ts : List Nat) (f : Nat) : ∀ n, valB (fun i => decide (bitB ts (f + i) = 1)) n = bitsV ts f n
 | 0 => rfl
 | n + 1 => by
  rw [valB, bitsV, valB_bits ts f n]
  have := bitB_lt ts (f + n)
  by_cases h : bitB ts (f + n) = 1
  ·rw [h]; simp; omega
  ·rw [show bitB ts (f + n) = 0 from by omega]; simp; omega
set_option maxHeartbeats 3200000 in
theorem refValue_any (b off n cap : Nat) (bf : Nat → Bool) (w : World) (hn : n ≤ 64) (hc : ∀ i, i < n → w.cell? ⟨b, off + i, none⟩ = some (.bool (bf i))) :
  Calls Tryz.prog 44 #[.slice (some ⟨b, off, none⟩) n cap] w (RNum w (valB bf n)) := by
 have HCC : Hid _ := hc
 clear hc
 go_enter Tryz.func44, Tryz.ntmps44
 go_wp2
 go_loopw [3, 4] (fun av iv wr => ∃ k : Nat, k ≤ n ∧ iv = .int .i64 (k : Int) ∧ Rd wr .i64 av (Dg.dg 65536 (valB bf k)) ∧ Below w.heap.size w wr) (fun _ iv _ => n - (intOf iv).toNat)
 case atStart => exact ⟨0, Nat.zero_le _, rfl, (own_nil _ 0 0 _).rd, Below.refl _ _⟩
 case round =>
  obtain ⟨k, hk, rfl, hr, bel⟩ := hrel
  obtain ⟨m, em⟩ : ∃ m, valB bf k = m := ⟨_, rfl⟩
  rw [em] at hr
  obtain ⟨ao, ca, rfl⟩ := hr.shape
  by_cases hlt : k < n
  ·have hcell := HCC.out k hlt
   have hvl := valB_lt bf k
   have hpw : (2 : Nat) ^ k ≤ 2 ^ 63 := Nat.pow_le_pow_right (by omega) (by omega)
   have hsv : valB bf (k + 1) = valB bf k * 2 + if bf k then 1 else 0 := rfl
   rw [em] at hvl hsv
   have hln : (Dg.dg 65536 m).length ≤ 4 := Dg.dg_len_le 65536 m 4 (by omega) (by omega)
   have hln2 : (Dg.dg 65536 (m * 2)).length ≤ 4 := Dg.dg_len_le 65536 (m * 2) 4 (by omega) (by omega)
   obtain ⟨bb, ebb⟩ : ∃ x, bf k = x := ⟨_, rfl⟩
   rw [ebb] at hcell hsv
   have HSV : Hid (valB bf (k + 1) = m * 2 + if bb then 1 else 0) := hsv
   have a1 := below_alloc wr (.cells #[.int .i64 2] 3)
   have r2 : Rd (wr.alloc (.cells #[.int .i64 2] 3)) .i64 (.slice (some ⟨wr.heap.size, 0, none⟩) 1 1) [2] := rd_new (w := wr) (k := .i64) (e := 3) [2] #[.int .i64 2] rfl (by unfold maxLen; simp)
   have ht := reftimes_any _ _ _ [2] _ (hr.later a1) r2 (Dg.small_dg 65536 m (by omega)) (fun i => by
    match i with
    | 0 => decide
    | i + 1 => simp) (by omega) (by simp)
   rw [Dg.vl_dg 65536 m (by omega), show Dg.vl 65536 [2] = 2 from rfl] at ht
   have HT : Hid (Calls Tryz.prog 76 #[.slice ao (Dg.dg 65536 m).length ca, .slice (some ⟨wr.heap.size, 0, none⟩) 1 1] (wr.alloc (.cells #[.int .i64 2] 3)) (RNum (wr.alloc (.cells #[.int .i64 2] 3)) (m * 2))) := ht
   have c0 := cell_later bel hcell
   have bw := below_trans bel a1
   clear ht hsv ebb em hvl hpw
   go_wp2_with fail
   refine Calls.mono HT.out ?_
   rintro z w2 ⟨v2, rfl, rd2, b2⟩
   obtain ⟨vo, vc, hv2⟩ := rd2.shape
   subst hv2
   have c2 := cell_later b2 (cell_later a1 c0)
   have bw2 := below_trans bw b2
   cases bb
   ·go_wp2
    go_roundw
    case rel => exact ⟨k + 1, by omega, by go_num, by rw [HSV.out]; exact rd2, bw2⟩
    case measure => simp [intOf]; omega
   ·have a3 := below_alloc w2 (.cells #[.int .i64 1] 3)
    have r1 : Rd (w2.alloc (.cells #[.int .i64 1] 3)) .i64 (.slice (some ⟨w2.heap.size, 0, none⟩) 1 1) [1] := rd_new (w := w2) (k := .i64) (e := 3) [1] #[.int .i64 1] rfl (by unfold maxLen; simp)
    have hp := refplus_any _ _ _ [1] _ (rd2.later a3) r1 (Dg.small_dg 65536 (m * 2) (by omega)) (fun i => by
     match i with
     | 0 => decide
     | i + 1 => simp) (Dg.norm_dg 65536 (m * 2) (by omega)) (fun _ => by simp) (by omega) (by simp)
    rw [Dg.vl_dg 65536 (m * 2) (by omega), show Dg.vl 65536 [1] = 1 from rfl] at hp
    have HP : Hid (Calls Tryz.prog 32 #[.slice vo (Dg.dg 65536 (m * 2)).length vc, .slice (some ⟨w2.heap.size, 0, none⟩) 1 1] (w2.alloc (.cells #[.int .i64 1] 3)) (RNum (w2.alloc (.cells #[.int .i64 1] 3)) (m * 2 + 1))) := hp
    have bw3 := below_trans bw2 a3
    clear hp
    go_wp2_with fail
    refine Calls.mono HP.out ?_
    rintro z w4 ⟨v4, rfl, rd4, b4⟩
    go_wp2
    go_roundw
    case rel => exact ⟨k + 1, by omega, by go_num, by rw [HSV.out]; exact rd4, below_trans bw3 b4⟩
    case measure => simp [intOf]; omega
  ·have HK : Hid (k = n ∧ valB bf k = m) := ⟨by omega, em⟩
   clear em
   go_wp2
   go_ret
   obtain ⟨h1, h2⟩ := HK.out
   subst h1 h2
   exact ⟨_, rfl, hr, bel⟩
end Go.Proofs.YtiiphandhpilgaaGreatDoor

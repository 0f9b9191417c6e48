/-
  The reference's bits of a pattern.
-/
import Derived.Test.YtgbccbmflokooaaGreatDoorCr1
namespace Go.Proofs.YtgbccbmflokooaaGreatDoor
open Go.RowKit

/-- The call's own row of truth values. -/
def OwnB (w : World) (base : Nat) (v : Value) (bs : List Bool) : Prop := w.ownsRow base 4 1 v bs.length (bs.map Value.bool)

theorem Tryz.infoB : (Tryz.prog.info? 4).map (fun i => (i.zero, i.size, i.bytes)) = some (some (.bool false), 1, 1) := by kernel_rfl

/-- The first n bits of bytes. -/
def bitsL (ts : List Nat) : Nat → List Bool
  | 0 => []
  | n + 1 => bitsL ts n ++ [decide (bitB ts n = 1)]

theorem bitsL_len (ts : List Nat) : ∀ n, (bitsL ts n).length = n
  | 0 => rfl
  | n + 1 => by rw [bitsL, List.length_append, bitsL_len ts n]; rfl

theorem bitsL_at (ts : List Nat) : ∀ n i, i < n → (bitsL ts n)[i]? = some (decide (bitB ts i = 1))
  | 0, _, h => absurd h (Nat.not_lt_zero _)
  | n + 1, i, h => by
    rw [bitsL]
    by_cases hi : i < n
    · rw [List.getElem?_append_left (by rw [bitsL_len]; exact hi)]
      exact bitsL_at ts n i hi
    · have : i = n := by omega
      subst this
      rw [List.getElem?_append_right (by rw [bitsL_len]; exact Nat.le_refl _), bitsL_len, Nat.sub_self]
      rfl

theorem index_bytes {P : Program} (t : TypeId) (s : ByteArray) (p : Nat) (h : P.underlying t = some .string) (hp : p < s.size) (W : World) :
    (Instr.index t (.string s) (.int .i64 (p : Int))).run P W = .ok (.int .u8 (((bytesOf s).getD p 0 : Nat) : Int)) W := by
  rw [run_index_string W t s .i64 (p : Int) h, dif_pos ⟨by omega, by omega⟩]
  congr 2
  have hp' : p < s.data.size := hp
  rw [bytesOf, List.getD_eq_getElem?_getD, List.getElem?_map, Array.getElem?_toList, Array.getElem?_eq_getElem hp']
  rfl

theorem ownB_append {w wr w3 : World} {x : Bool} {es : List Bool} {lv v' : Value} (bel : Below w.heap.size w wr) (ownL : OwnB wr w.heap.size lv es)
    (hown' : w3.ownsRow w.heap.size 4 1 v' (es.length + 1) ((es.map Value.bool) ++ [.bool x]))
    (hgrow : (wr.alloc (.cells #[.bool x] 4)).grownBy w3 lv.ownBlock) :
    OwnB w3 w.heap.size v' (es ++ [x]) ∧ Below w.heap.size w w3 := by
  have b1 : Below wr.heap.size wr (wr.alloc (.cells #[.bool x] 4)) := (Below.refl _ _).alloc (Nat.le_refl _) _
  refine ⟨?_, ?_⟩
  · unfold OwnB
    simpa using hown'
  · refine (below_trans bel b1).grown hgrow (Nat.le_trans bel.size b1.size) (fun k hk => ?_)
    exact (World.ownsRow.lt ownL k hk).1

theorem OwnB.later {w w' : World} {base : Nat} {v : Value} {bs : List Bool} (h : OwnB w base v bs) (hb : Below w.heap.size w w') : OwnB w' base v bs := by
  obtain ⟨hl, h2⟩ := h
  refine ⟨hl, ?_⟩
  rcases h2 with h2 | ⟨g, cap, cur, hv, hbg, hh, r⟩
  · exact .inl h2
  · refine .inr ⟨g, cap, cur, hv, hbg, ?_, r⟩
    rw [hb.block g ?_]
    · exact hh
    · rw [Array.getElem?_eq_some_iff] at hh
      exact hh.1

theorem half_step : ∀ j, j < 8 → 2 ^ (7 - j) / 2 = if j + 1 < 8 then 2 ^ (7 - (j + 1)) else 0 := by decide

set_option maxRecDepth 100000 in
set_option maxHeartbeats 6400000 in
theorem bitsOf_any (k : Nat) (hk : 1 ≤ k ∧ k ≤ 8) (s : ByteArray) (w : World) (hs : s.size = szN k) :
    Calls Tryz.prog 26 #[.int .i64 (k : Int), .string s] w fun z w' => ∃ v, z = .returned v ∧ OwnB w' w.heap.size v (bitsL (fldB k s) (8 * szN k)) ∧ Below w.heap.size w w' := by
  obtain ⟨i0, hi, hz0, hz1, hz2⟩ := info_parts Tryz.infoB
  have HP : Hid (∀ (i : Nat) w1, i < szN k → Calls Tryz.prog 62 #[.int .i64 (k : Int), .int .i64 (i : Int)] w1 fun z w' => z = .returned (.int .i64 ((plN k i : Nat) : Int)) ∧ Below w1.heap.size w1 w') := fun i w1 h => place_any k hk i h w1
  have HX : Hid (∀ p W, p < s.size → (Instr.index 9 (.string s) (.int .i64 (p : Int))).run Tryz.prog W = .ok (.int .u8 (((bytesOf s).getD p 0 : Nat) : Int)) W) := fun p W h => index_bytes 9 s p Tryz.underlying9 h W
  have HT : Hid (∀ i, i < szN k → (fldB k s).getD i 0 = (bytesOf s).getD (plN k i) 0 ∧ plN k i < szN k) := fun i h => ⟨plN_at k _ i (by rw [bytesOf_len, hs]) (by rw [bytesOf_len, hs]; exact h), plN_lt hk h⟩
  have hsm := turnB_small k _ (bytesOf_small s)
  have HSM : Hid (Dg.Small 256 (fldB k s)) := hsm
  have hsz := (sizes_fit hk).2.2.1
  obtain ⟨sz, esz⟩ : ∃ x, szN k = x := ⟨_, rfl⟩
  obtain ⟨ts, ets⟩ : ∃ x, fldB k s = x := ⟨_, rfl⟩
  rw [esz] at HP HT hsz hs ⊢
  rw [ets] at HT HSM ⊢
  clear hsm esz ets hk
  go_enter Tryz.func26, Tryz.ntmps26
  go_wp2
  go_loopw [5, 6] (fun ov iv wr => ∃ i : Nat, i ≤ sz ∧ iv = .int .i64 (i : Int) ∧ OwnB wr w.heap.size ov (bitsL ts (8 * i)) ∧ Below w.heap.size w wr) (fun _ iv _ => sz - (intOf iv).toNat)
  case atStart => exact ⟨0, by omega, rfl, World.ownsRow_nil _ _ _ 1, Below.refl _ _⟩
  case round =>
    obtain ⟨i, hi1, rfl, own, bel⟩ := hrel
    by_cases hlt : i < sz
    · have hx := HX.out (plN k i)
      obtain ⟨ht1, ht2⟩ := HT.out i hlt
      have hx := fun W => HX.out (plN k i) W (by omega)
      rw [← ht1] at hx
      have hc := HSM.out i
      obtain ⟨c, ec⟩ : ∃ c, ts.getD i 0 = c := ⟨_, rfl⟩
      obtain ⟨pp, ep⟩ : ∃ c, plN k i = c := ⟨_, rfl⟩
      have hp := fun w1 => HP.out i w1 hlt
      rw [ep] at hx hp
      rw [ec] at hx hc
      have HPP : Hid (∀ w1, Calls Tryz.prog 62 #[.int .i64 (k : Int), .int .i64 (i : Int)] w1 fun z w' => z = .returned (.int .i64 (pp : Int)) ∧ Below w1.heap.size w1 w') := hp
      have HC : Hid (ts.getD i 0 = c) := ec
      have hwc : IntKind.i64.wrap (c : Int) = (c : Int) := IntWalk.i64_in _ ⟨by omega, by omega⟩
      clear hp ht1 ht2 ep ec
      go_wp2_with fail
      refine (HPP.out _).mono ?_
      rintro z w2 ⟨rfl, b2⟩
      have own2 := own.later b2
      have bel2 := below_trans bel b2
      clear own bel b2 HPP
      go_wp2
      go_loopw [5, 8] (fun ov kv wr => ∃ j kk : Nat, j ≤ 8 ∧ Hid (kk = if j < 8 then 2 ^ (7 - j) else 0) ∧ kv = .int .i64 (kk : Int) ∧ kk ≤ 128 ∧ OwnB wr w.heap.size ov (bitsL ts (8 * i + j)) ∧ Below w.heap.size w wr) (fun _ kv _ => (intOf kv).toNat)
      case atStart => exact ⟨0, 128, by omega, rfl, rfl, by omega, own2, bel2⟩
      case round =>
        obtain ⟨j, kk, hj, HK, rfl, hkl, own, bel⟩ := hrel
        by_cases hj8 : j < 8
        · have hkk : kk = 2 ^ (7 - j) := by have := HK.out; rwa [if_pos hj8] at this
          have hk0 : 0 < kk := by rw [hkk]; exact Nat.pow_pos (by omega)
          obtain ⟨b, eb⟩ : ∃ b, decide (bitB ts (8 * i + j) = 1) = b := ⟨_, rfl⟩
          have hbit : bitB ts (8 * i + j) = c / kk % 2 := by
            unfold bitB
            rw [show (8 * i + j) / 8 = i from by omega, show (8 * i + j) % 8 = j from by omega, HC.out, hkk]
          have hsu : bitsL ts (8 * i + (j + 1)) = bitsL ts (8 * i + j) ++ [b] := by rw [← eb, show 8 * i + (j + 1) = 8 * i + j + 1 from by omega]; rfl
          obtain ⟨r, er⟩ : ∃ r, c / kk % 2 = r := ⟨_, rfl⟩
          obtain ⟨q, eq⟩ : ∃ q, c / kk = q := ⟨_, rfl⟩
          have hqI : (c : Int) / (kk : Int) = (q : Int) := by rw [← eq]; exact (Int.natCast_ediv c kk).symm
          have hql : q < 256 := by rw [← eq]; exact Nat.lt_of_le_of_lt (Nat.div_le_self _ _) hc
          have hrI : (q : Int) % 2 = (r : Int) := by rw [← er, eq]; omega
          have hbI : ((r : Int) == 1) = b := by
            rw [← eb, hbit, er]
            by_cases h : r = 1
            · subst h; rfl
            · rw [decide_eq_false h]; simp; omega
          have hkI : ((kk : Int) != 0) = true := by rw [bne_iff_ne]; omega
          have hhf : (kk : Int) / 2 = ((kk / 2 : Nat) : Int) := by omega
          have hst := half_step j hj8
          rw [← hkk] at hst
          have HST : Hid (_ ∧ _) := ⟨hst, hsu⟩
          have hlen := bitsL_len ts (8 * i + j)
          obtain ⟨es, ees⟩ : ∃ es, bitsL ts (8 * i + j) = es := ⟨_, rfl⟩
          rw [ees] at own hlen HST
          have hel : es.length ≤ 200 := by omega
          obtain ⟨kh, ekh⟩ : ∃ x, kk / 2 = x := ⟨_, rfl⟩
          rw [ekh] at hhf HST
          have hkh : kh < kk := by omega
          have hbs := bel.size
          clear eb hbit hsu er eq hst hlen ees ekh hkk HK
          go_wp2_with (at_builtin; refine wpList_append_own _ rfl _ _ 72 rfl w.heap.size 4 i0 (.bool false) 1 1 Tryz.underlying72 hi hz0 hz1 hz2 rfl (by decide) _ _ _ rfl (World.ownsRow.alloc own _) ⟨wr.heap.size, 0, none⟩ 1 1 [.bool b] rfl rfl ?c1 ?c2 ?c3 ?c4 ?c5 ?_)
          case c1 => exact cell_one_new _ _ _
          case c2 => intro u hu; simp at hu; subst hu; rfl
          case c3 => unfold maxLen; omega
          case c4 => omega
          case c5 => simp; omega
          intro v' w3 hown' hgrow _
          have R := ownB_append bel own hown' hgrow
          clear hown' hgrow own
          go_wp2
          go_roundw
          case rel => exact ⟨j + 1, kh, by omega, HST.out.1, rfl, by omega, by rw [HST.out.2]; exact R.1, R.2⟩
          case measure => simp [intOf]; omega
        · have hk0 : kk = 0 := by have := HK.out; rwa [if_neg hj8] at this
          have HJ : Hid (j = 8) := (by omega : j = 8)
          subst hk0
          go_wp2
          go_roundw
          case rel =>
            have := HJ.out
            subst this
            exact ⟨i + 1, by omega, by go_num, own, bel⟩
          case measure => simp [intOf]; omega
    · have HI : Hid (i = sz) := (by omega : i = sz)
      go_wp2
      go_ret
      have := HI.out
      subst this
      exact ⟨_, rfl, own, bel⟩
end Go.Proofs.YtgbccbmflokooaaGreatDoor

/-
  Texts laid together: Ce3, Ce4.
-/
import Derived.Test.YtiiphandhpilgaaGreatDoorEa25
namespace Go.Proofs.YtiiphandhpilgaaGreatDoor
open Go.RowKit
/-- The bytes of bits. -/
def byL (bf : Nat → Bool) (n : Nat) : List Nat := (List.range n).map fun i => valB (fun j => bf (8 * i + j)) 8

theorem byL_len (bf : Nat → Bool) (n : Nat) : (byL bf n).length = n := by simp [byL]

theorem byL_at (bf : Nat → Bool) (n i : Nat) (h : i < n) : (byL bf n).getD i 0 = valB (fun j => bf (8 * i + j)) 8 := by
  simp [byL, List.getD_eq_getElem?_getD, h]

theorem plN_twice {k i : Nat} (hk : 1 ≤ k ∧ k ≤ 8) (hi : i < szN k) : plN k (plN k i) = i := by
  obtain ⟨m, hm⟩ := (sizes_fit hk).2.2.2.2.1
  unfold plN
  by_cases h3 : k = 3
  · rw [if_pos h3, if_pos h3]
    omega
  · rw [if_neg h3, if_neg h3]
    by_cases h6 : 6 ≤ k
    · rw [if_pos h6, if_pos h6]
      omega
    · rw [if_neg h6, if_neg h6]

/-- i bytes are placed. -/
def PlI (k : Nat) (bf : Nat → Bool) (i : Nat) (cur : List Nat) : Prop :=
  cur.length = szN k ∧ ∀ j, j < i → cur.getD (plN k j) 0 = valB (fun u => bf (8 * j + u)) 8

theorem plI_step {k i : Nat} (hk : 1 ≤ k ∧ k ≤ 8) {bf : Nat → Bool} {cur : List Nat} (h : PlI k bf i cur) (hi : i < szN k) : PlI k bf (i + 1) (cur.set (plN k i) (valB (fun u => bf (8 * i + u)) 8)) := by
  obtain ⟨h1, h2⟩ := h
  have hl := plN_lt hk hi
  refine ⟨by simpa using h1, fun j hj => ?_⟩
  by_cases e : j = i
  · subst e
    rw [Dg.getD_set _ _ _ _ (by omega), if_pos rfl]
  · have hne : plN k i ≠ plN k j := fun he => by
      have h3 := plN_twice hk hi
      rw [he, plN_twice hk (by omega)] at h3
      exact e h3
    rw [Dg.getD_set _ _ _ _ (by omega), if_neg hne, h2 j (by omega)]

theorem plI_end {k : Nat} (hk : 1 ≤ k ∧ k ≤ 8) {bf : Nat → Bool} {cur : List Nat} (h : PlI k bf (szN k) cur) : cur = turnB k (byL bf (szN k)) := by
  obtain ⟨h1, h2⟩ := h
  apply List.ext_getElem (by rw [turnB_len, byL_len]; exact h1)
  intro p hp1 hp2
  have hp : p < szN k := by omega
  have e1 : cur.getD p 0 = cur[p] := by simp [List.getD_eq_getElem?_getD, hp1]
  have e2 : (turnB k (byL bf (szN k))).getD p 0 = (turnB k (byL bf (szN k)))[p] := by simp only [List.getD_eq_getElem?_getD, List.getElem?_eq_getElem hp2, Option.getD_some]
  rw [← e1, ← e2, plN_at k _ p (byL_len _ _) (by rw [byL_len]; exact hp), byL_at _ _ _ (plN_lt hk hp)]
  have := h2 (plN k p) (plN_lt hk hp)
  rw [plN_twice hk hp] at this
  exact this

set_option maxRecDepth 100000 in
set_option maxHeartbeats 6400000 in
theorem patternOf_any (k : Nat) (hk : 1 ≤ k ∧ k ≤ 8) (g off cap : Nat) (bf : Nat → Bool) (w : World) (hc : ∀ i, i < 8 * szN k → w.cell? ⟨g, off + i, none⟩ = some (.bool (bf i))) :
    Calls Tryz.prog 35 #[.int .i64 (k : Int), .slice (some ⟨g, off, none⟩) (8 * szN k) cap] w fun z w' => z = .returned (.string (strOf (turnB k (byL bf (szN k))))) ∧ Below w.heap.size w w' := by
  obtain ⟨i0, hi, hz0, hz1, hz2⟩ := info_parts Tryz.infoU8
  have hsz := (sizes_fit hk).2.2.1
  have hsz1 : 1 ≤ szN k := by rcases eight hk with rfl | rfl | rfl | rfl | rfl | rfl | rfl | rfl <;> decide
  have HP : Hid (∀ (i : Nat) w1, i < szN k → Calls Tryz.prog 63 #[.int .i64 (k : Int), .int .i64 (i : Int)] w1 fun z w' => z = .returned (.int .i64 ((plN k i : Nat) : Int)) ∧ Below w1.heap.size w1 w') := fun i w1 h => place_any k hk i h w1
  have HCC : Hid (∀ i, i < 8 * szN k → w.cell? ⟨g, off + i, none⟩ = some (.bool (bf i))) := hc
  have HE : Hid (∀ cur, PlI k bf (szN k) cur → cur = turnB k (byL bf (szN k))) := fun cur h => plI_end hk h
  have HS : Hid (∀ i cur, PlI k bf i cur → i < szN k → PlI k bf (i + 1) (cur.set (plN k i) (valB (fun u => bf (8 * i + u)) 8)) ∧ plN k i < szN k) := fun i cur h h' => ⟨plI_step hk h h', plN_lt hk h'⟩
  obtain ⟨sz, esz⟩ : ∃ x, szN k = x := ⟨_, rfl⟩
  have HL : Hid (∀ i cur, PlI k bf i cur → cur.length = sz) := fun i cur h => by rw [← esz]; exact h.1
  have hst0 : PlI k bf 0 (List.replicate sz 0) := ⟨by simp [esz], fun j hj => absurd hj (Nat.not_lt_zero _)⟩
  rw [esz] at hsz hsz1 HP HCC HE HS ⊢
  obtain ⟨nb, enb⟩ : ∃ x, 8 * sz = x := ⟨_, rfl⟩
  have hq : (nb : Int) / 8 = (sz : Int) := by omega
  have hnb : nb ≤ 80 := by omega
  have HNB : Hid (8 * sz = nb) := enb
  rw [enb] at HCC ⊢
  obtain ⟨st, est⟩ : ∃ x, strOf (turnB k (byL bf sz)) = x := ⟨_, rfl⟩
  have HST : Hid (strOf (turnB k (byL bf sz)) = st) := est
  rw [est]
  clear hc esz enb est hk
  go_enter Tryz.func35, Tryz.ntmps35
  go_wp2_with (at_make; refine wpList_make_full _ rfl _ _ 77 rfl w.heap.size 5 i0 (.int .u8 0) 1 Tryz.underlying77 hi hz0 hz1 _ _ _ _ sz rfl rfl (by omega) (by omega) ?b2 ?b3 (Nat.le_refl _) ?_)
  case b2 => rw [hz2]; omega
  case b3 => unfold maxLen; omega
  intro w0 hown hgrow
  have r0 := own_brow (own_made hown)
  have b0 : Below w.heap.size w w0 := (Below.refl _ _).grown hgrow (Nat.le_refl _) (fun k h => by cases h)
  clear hown hgrow
  go_wp2
  go_loopw [6] (fun iv wr => ∃ (i : Nat) (cur : List Nat), i ≤ sz ∧ iv = .int .i64 (i : Int) ∧ BRow wr w.heap.size cur ∧ PlI k bf i cur ∧ Below w.heap.size w wr) (fun iv _ => sz - (intOf iv).toNat)
  case atStart => exact ⟨0, List.replicate sz 0, by omega, rfl, r0, hst0, b0⟩
  case round =>
    obtain ⟨i, cur, hi1, rfl, row, hI, bel⟩ := hrel
    by_cases hlt : i < sz
    · go_wp2
      go_loop [7, 8] (fun cv jv => ∃ j c : Nat, j ≤ 8 ∧ Hid (c = valB (fun u => bf (8 * i + u)) j ∧ c < 2 ^ j) ∧ c < 256 ∧ cv = .int .i64 (c : Int) ∧ jv = .int .i64 (j : Int)) (fun _ jv => 8 - (intOf jv).toNat)
      case atStart => exact ⟨0, 0, by omega, ⟨rfl, by simp⟩, by omega, rfl, rfl⟩
      case round =>
        obtain ⟨j, c, hj, HX, hc256, rfl, rfl⟩ := hrel
        by_cases hj8 : j < 8
        · have hce := cell_later bel (HCC.out (8 * i + j) (by have := HNB.out; omega))
          have hx := HX.out.1
          have hxl := HX.out.2
          have hsv : valB (fun u => bf (8 * i + u)) (j + 1) = c * 2 + if bf (8 * i + j) then 1 else 0 := by rw [valB, ← hx]
          obtain ⟨bb, ebb⟩ : ∃ x, bf (8 * i + j) = x := ⟨_, rfl⟩
          rw [ebb] at hce hsv
          obtain ⟨p, ep⟩ : ∃ x, 8 * i + j = x := ⟨_, rfl⟩
          rw [ep] at hce
          have hpI : (8 : Int) * (i : Int) + (j : Int) = (p : Int) := by omega
          have hpl : p < nb := by have := HNB.out; omega
          have hl2 : (2 : Nat) ^ (j + 1) ≤ 2 ^ 8 := Nat.pow_le_pow_right (by omega) (by omega)
          have hvl := valB_lt (fun u => bf (8 * i + u)) (j + 1)
          have HH : Hid (_ ∧ _) := ⟨hsv, hvl⟩
          clear hx ebb ep hsv HX
          cases bb
          all_goals go_wp2
          all_goals (obtain ⟨hsv, hvl⟩ := HH.out; simp only [Bool.false_eq_true, if_false, if_true] at hsv; refine ⟨⟨j + 1, valB (fun u => bf (8 * i + u)) (j + 1), by omega, ⟨rfl, hvl⟩, by omega, by rw [hsv]; congr 1; omega, rfl⟩, by simp only [intOf]; omega⟩)
        · obtain ⟨hx, hxl⟩ := HX.out
          have hj' : j = 8 := by omega
          rw [hj'] at hx
          obtain ⟨hst, hpl⟩ := HS.out i cur hI hlt
          have hp := fun w1 => HP.out i w1 hlt
          obtain ⟨pp, ep⟩ : ∃ x, plN k i = x := ⟨_, rfl⟩
          rw [ep] at hst hpl hp
          rw [← hx] at hst
          have HPP : Hid (∀ w1, Calls Tryz.prog 63 #[.int .i64 (k : Int), .int .i64 (i : Int)] w1 fun z w' => z = .returned (.int .i64 (pp : Int)) ∧ Below w1.heap.size w1 w') := hp
          have hcl := HL.out i cur hI
          have hjI : ¬ ((j : Int) < 8) := by omega
          have hwc : IntKind.u8.wrap (c : Int) = (c : Int) := by rw [IntKind.wrap_u8']; omega
          clear hp hx hj' ep HX hI
          go_wp2_with fail
          refine (HPP.out _).mono ?_
          rintro z w2 ⟨rfl, b2⟩
          have row2 := row.later b2
          have bel2 := below_trans bel b2
          have hf := row2.free pp (by omega)
          have hce := row2.cell pp (by omega)
          have row3 := row2.store pp c
          have bel3 := (but_set w2 w.heap.size pp (.int .u8 (c : Int))).below bel2 (Nat.le_refl _)
          have HR : Hid (_ ∧ _ ∧ _) := ⟨row3, bel3, hst⟩
          clear row3 bel3 hst row row2 bel bel2 b2
          go_wp2
          go_roundw
          case rel =>
            obtain ⟨row3, bel3, hst⟩ := HR.out
            exact ⟨i + 1, _, by omega, by go_num, row3, hst, bel3⟩
          case measure => simp [intOf]; omega
    · have HI : Hid (i = sz) := (by omega : i = sz)
      have hcl := HL.out i cur hI
      have hcv := convert_brow (cap := sz) 77 9 Tryz.underlying77 Tryz.underlying5 Tryz.underlying9 row
      have he : cur = turnB k (byL bf sz) := HE.out cur (by have := HI.out; rw [← this] at *; exact hI)
      rw [hcl, he, HST.out] at hcv
      clear he
      go_wp2
      go_ret
      exact ⟨rfl, bel⟩
end Go.Proofs.YtiiphandhpilgaaGreatDoor
namespace Go.Proofs.YtiiphandhpilgaaGreatDoor
open Go.RowKit
theorem bitB_test (zs : List Nat) (i : Nat) : bitB zs i = ((zs.getD (i / 8) 0).testBit (7 - i % 8)).toNat := by
  unfold bitB
  rw [Nat.testBit_eq_decide_div_mod_eq]
  have h := Nat.mod_lt (zs.getD (i / 8) 0 / 2 ^ (7 - i % 8)) (show 0 < 2 by omega)
  rcases (show zs.getD (i / 8) 0 / 2 ^ (7 - i % 8) % 2 = 0 ∨ zs.getD (i / 8) 0 / 2 ^ (7 - i % 8) % 2 = 1 by omega) with e | e <;> rw [e] <;> rfl

theorem testBit_put (y b t u : Nat) (hb : b < 2) : (y ||| b * 2 ^ t).testBit u = (y.testBit u || (decide (b = 1) && decide (t = u))) := by
  rw [Nat.testBit_or]
  rcases (show b = 0 ∨ b = 1 by omega) with rfl | rfl
  · simp
  · rw [Nat.one_mul, Nat.testBit_two_pow]
    simp

/-- One bit is put. -/
theorem bitB_put (zs : List Nat) (p b i : Nat) (hb : b < 2) (hp : p / 8 < zs.length) : bitB (zs.set (p / 8) (zs.getD (p / 8) 0 ||| b * 2 ^ (7 - p % 8))) i = if i = p then (if b = 1 then 1 else bitB zs i) else bitB zs i := by
  rw [bitB_test, bitB_test, Dg.getD_set _ _ _ _ hp]
  by_cases h8 : p / 8 = i / 8
  · rw [if_pos h8, testBit_put _ _ _ _ hb, h8]
    by_cases hi : i = p
    · subst hi
      rw [if_pos rfl]
      rcases (show b = 0 ∨ b = 1 by omega) with rfl | rfl
      · simp
      · simp
    · rw [if_neg hi, decide_eq_false (show ¬ 7 - p % 8 = 7 - i % 8 by omega)]
      simp
  · rw [if_neg h8, if_neg (show ¬ i = p from fun e => h8 (by rw [e]))]

/-- What setBits leaves, bit by bit. -/
theorem bitB_setB (f : Nat) : ∀ (c x : Nat) (zs : List Nat) (i : Nat), f + c ≤ 8 * zs.length → bitB (setB f c x zs) i = if f ≤ i ∧ i < f + c then (if x / 2 ^ (f + c - 1 - i) % 2 = 1 then 1 else bitB zs i) else bitB zs i
  | 0, x, zs, i, _ => by
    rw [setB, if_neg (by omega)]
  | c + 1, x, zs, i, h => by
    rw [setB, bitB_setB f c (x / 2) _ i (by rw [List.length_set]; omega), bitB_put _ _ _ _ (Nat.mod_lt _ (by omega)) (by omega)]
    by_cases h1 : f ≤ i ∧ i < f + c
    · rw [if_pos h1, if_pos (show f ≤ i ∧ i < f + (c + 1) by omega), if_neg (show ¬ i = f + c by omega), Nat.div_div_eq_div_mul, ← Nat.pow_succ', show (f + c - 1 - i).succ = f + (c + 1) - 1 - i from by omega]
    · rw [if_neg h1]
      by_cases h2 : i = f + c
      · rw [if_pos h2, if_pos (show f ≤ i ∧ i < f + (c + 1) by omega), show f + (c + 1) - 1 - i = 0 from by omega, Nat.pow_zero, Nat.div_one]
      · rw [if_neg h2, if_neg (show ¬ (f ≤ i ∧ i < f + (c + 1)) by omega)]

theorem byte_bits (y : Nat) (h : y < 256) : valB (fun j => decide (y / 2 ^ (7 - j) % 2 = 1)) 8 = y := by
  have e : ∀ n, (if decide (n % 2 = 1) = true then 1 else 0) = n % 2 := fun n => by
    rcases (show n % 2 = 0 ∨ n % 2 = 1 by omega) with h | h <;> rw [h] <;> rfl
  simp only [valB, e]
  omega

theorem valB_congr {f g : Nat → Bool} : ∀ n, (∀ j, j < n → f j = g j) → valB f n = valB g n
  | 0, _ => rfl
  | n + 1, h => by
    rw [valB, valB, valB_congr n (fun j hj => h j (by omega)), h n (by omega)]

theorem bytes_bits (zs : List Nat) (hs : Dg.Small 256 zs) : zs = byL (fun i => decide (bitB zs i = 1)) zs.length := by
  apply List.ext_getElem (by rw [byL_len])
  intro p hp1 hp2
  have e1 : zs.getD p 0 = zs[p] := by simp [List.getD_eq_getElem?_getD, hp1]
  have e2 : (byL (fun i => decide (bitB zs i = 1)) zs.length).getD p 0 = (byL (fun i => decide (bitB zs i = 1)) zs.length)[p] := by simp only [List.getD_eq_getElem?_getD, List.getElem?_eq_getElem hp2, Option.getD_some]
  rw [← e1, ← e2, byL_at _ _ _ hp1]
  refine (byte_bits (zs.getD p 0) (hs p)).symm.trans (valB_congr 8 (fun j hj => ?_))
  unfold bitB
  rw [show (8 * p + j) / 8 = p from by omega, show (8 * p + j) % 8 = j from by omega]

theorem byL_congr {f g : Nat → Bool} (n : Nat) (h : ∀ i, i < 8 * n → f i = g i) : byL f n = byL g n := by
  unfold byL
  apply List.map_congr_left
  intro i hi
  have := List.mem_range.1 hi
  exact valB_congr 8 (fun j hj => h _ (by omega))

theorem bitB_zeros (n i : Nat) : bitB (List.replicate n 0) i = 0 := by
  unfold bitB
  have : (List.replicate n 0).getD (i / 8) 0 = 0 := by
    by_cases h : i / 8 < n
    · simp [List.getD_eq_getElem?_getD, h]
    · simp [List.getD_eq_getElem?_getD, h]
  rw [this]
  simp

/-- The bits of a pattern: a sign, E, F. -/
def patF (ex fr : Nat) (ng : Bool) (e f : Nat) (i : Nat) : Bool :=
  if i = 0 then ng else if i ≤ ex then decide (e / 2 ^ (ex - i) % 2 = 1) else decide (f / 2 ^ (ex + fr - i) % 2 = 1)

theorem wrtB_bits {k : Nat} (hk : 1 ≤ k ∧ k ≤ 8) (ng : Bool) (e f : Nat) : wrtB k ng e f = turnB k (byL (patF (exN k) (frN k) ng e f) (szN k)) := by
  obtain ⟨h1, h2, h3, h4, -, h7⟩ := sizes_fit hk
  unfold wrtB
  congr 1
  have sm0 : Dg.Small 256 (List.replicate (szN k) 0) := by
    intro i
    by_cases hi : i < szN k
    · simp [List.getD_eq_getElem?_getD, hi]
    · simp [List.getD_eq_getElem?_getD, hi]
  have key : ∀ zs : List Nat, zs.length = szN k → Dg.Small 256 zs → (∀ i, bitB zs i = if i = 0 ∧ ng = true then 1 else 0) → setB (1 + exN k) (frN k) f (setB 1 (exN k) e zs) = byL (patF (exN k) (frN k) ng e f) (szN k) := fun zs hl hs hb => by
    have hl2 : (setB (1 + exN k) (frN k) f (setB 1 (exN k) e zs)).length = szN k := by rw [setB_len, setB_len, hl]
    rw [bytes_bits _ (setB_small _ _ _ _ (setB_small _ _ _ _ hs)), hl2]
    refine byL_congr _ (fun i hi => ?_)
    rw [bitB_setB _ _ _ _ _ (by rw [setB_len]; omega), bitB_setB _ _ _ _ _ (by omega), hb i]
    unfold patF
    by_cases h0 : i = 0
    · subst h0
      rw [if_neg (by omega), if_neg (by omega), if_pos rfl]
      cases ng <;> rfl
    · rw [if_neg h0]
      have hz : (if i = 0 ∧ ng = true then 1 else 0) = 0 := if_neg (fun h => h0 h.1)
      rw [hz]
      by_cases hx : i ≤ exN k
      · rw [if_pos hx, if_neg (by omega), if_pos (show 1 ≤ i ∧ i < 1 + exN k by omega), show 1 + exN k - 1 - i = exN k - i from by omega]
        split
        · rename_i h; rw [h]
        · rename_i h; rw [decide_eq_false h]; rfl
      · rw [if_neg hx, if_pos (show 1 + exN k ≤ i ∧ i < 1 + exN k + frN k by omega), if_neg (show ¬ (1 ≤ i ∧ i < 1 + exN k) by omega), show 1 + exN k + frN k - 1 - i = exN k + frN k - i from by omega]
        split
        · rename_i h; rw [h]
        · rename_i h; rw [decide_eq_false h]; rfl
  cases ng
  · rw [if_neg (by simp)]
    exact key _ List.length_replicate sm0 (fun i => by rw [bitB_zeros]; simp)
  · rw [if_pos rfl]
    refine key _ (by rw [setB_len]; exact List.length_replicate) (setB_small _ _ _ _ sm0) (fun i => ?_)
    rw [bitB_setB _ _ _ _ _ (by rw [List.length_replicate]; omega), bitB_zeros]
    by_cases h0 : i = 0
    · subst h0
      rfl
    · rw [if_neg (by omega), if_neg (fun h => h0 h.1)]
end Go.Proofs.YtiiphandhpilgaaGreatDoor

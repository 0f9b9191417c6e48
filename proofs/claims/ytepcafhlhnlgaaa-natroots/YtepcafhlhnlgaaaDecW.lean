/-
  The walk of digits.Number.Decimal.
-/
import Derived.Test.YtepcafhlhnlgaaaDec
namespace Go.Proofs.Ytepcafhlhnlgaaa
open Go.RowKit

theorem below_of_grown {B : Nat} {w w1 w2 : World} {g : Nat} (h : Below B w w1) (hB : B ≤ w1.heap.size) (hg : w1.grownBy w2 (some g)) (hle : B ≤ g) : Below B w w2 :=
  h.grown hg hB (fun k hk => by cases hk; exact hle)

theorem Own.shapeOf {w : World} {base e : Nat} {k : IntKind} {v : Value} {zs : List Nat} (h : Own w base e k v zs) (hp : zs ≠ []) : ∃ g cap, v = .slice (some ⟨g, 0, none⟩) zs.length cap ∧ base ≤ g ∧ g < w.heap.size := by
  rcases h.2 with ⟨hv, hn⟩ | ⟨g, cap, cur, hv, hb, hh, _⟩
  · exact absurd (List.eq_nil_of_length_eq_zero hn) hp
  · exact ⟨g, cap, hv, hb, by rw [Array.getElem?_eq_some_iff] at hh; exact hh.1⟩

theorem Own.cap {w : World} {base e : Nat} {k : IntKind} {g n cap : Nat} {zs : List Nat} (h : Own w base e k (.slice (some ⟨g, 0, none⟩) n cap) zs) : n ≤ cap ∧ cap ≤ 9223372036854775807 := by
  have hn := h.len
  subst hn
  rcases h.2 with ⟨hv, _⟩ | ⟨g', cap', cur, hv, hb, hh, hnc, hcm, hcs, htake⟩
  · simp at hv
  · simp only [Value.slice.injEq, Option.some.injEq, Addr.mk.injEq, and_true, true_and] at hv
    obtain ⟨rfl, rfl⟩ := hv
    exact ⟨hnc, by unfold maxLen at hcm; exact hcm⟩

theorem divideBy_dec (g n cap base m : Nat) (w : World) (ho : Own w base 58 .u32 (.slice (some ⟨g, 0, none⟩) n cap) (Dg.dg 4294967296 m)) (hl : (Dg.dg 4294967296 m).length ≤ 1000000) :
    Calls Try.prog 77 #[.slice (some ⟨g, 0, none⟩) n cap, .int .u32 1000000000] w fun e w' =>
      ∃ qs, e = .returned (.int .u32 ((m % 1000000000 : Nat) : Int)) ∧ Own w' base 58 .u32 (.slice (some ⟨g, 0, none⟩) n cap) qs ∧ Dg.Small 4294967296 qs ∧ Dg.vl 4294967296 qs = m / 1000000000 ∧ w.grownBy w' (some g) := by
  have := divideBy_any g n cap base (Dg.dg 4294967296 m) 1000000000 w ho (Dg.small_dg _ _ (by omega)) (by omega) (by omega) hl
  rw [Dg.vl_dg _ _ (by omega)] at this
  refine Calls.mono this ?_
  rintro e w' ⟨qs, h1, h2, h3, h4, h5, h6⟩
  exact ⟨qs, h1, h2, h4, h5, h6⟩

/-- What the outer loop keeps. -/
def DecR (w : World) (L n m : Nat) (lv rv : Value) (wr : World) : Prop :=
  ∃ ds len, rv = .slice (some ⟨w.heap.size, 0, none⟩) len L ∧ Own wr w.heap.size 58 .u32 (.slice (some ⟨w.heap.size, 0, none⟩) len L) (Dg.dg 4294967296 m) ∧ Own wr (w.heap.size + 1) 5 .u8 lv (ds.map (fun d => 48 + d)) ∧ DecO n ds m ∧ Below w.heap.size w wr ∧ w.heap.size < wr.heap.size ∧ len ≤ L ∧ ds.length ≤ 32 * L + 9

/-- What the inner loop keeps. -/
def DecS (w : World) (L n m len base0 : Nat) (qs : List Nat) (lv gv jv : Value) (wr : World) : Prop :=
  ∃ ds j g, gv = .int .u32 ((g : Nat) : Int) ∧ jv = .int .i64 ((j : Nat) : Int) ∧ j ≤ 9 ∧ ds.length = base0 + j ∧ g < 1000000000 ∧ Own wr w.heap.size 58 .u32 (.slice (some ⟨w.heap.size, 0, none⟩) len L) qs ∧ Own wr (w.heap.size + 1) 5 .u8 lv (ds.map (fun d => 48 + d)) ∧ DecI n m ds j g ∧ Below w.heap.size w wr ∧ w.heap.size < wr.heap.size

theorem dec_append {w wr w3 : World} {L len g : Nat} {qs es : List Nat} {lv v' : Value} (bel : Below w.heap.size w wr) (hsz : w.heap.size < wr.heap.size)
    (ownQ : Own wr w.heap.size 58 .u32 (.slice (some ⟨w.heap.size, 0, none⟩) len L) qs) (ownL : Own wr (w.heap.size + 1) 5 .u8 lv (es.map (fun d => 48 + d)))
    (hown' : w3.ownsRow (w.heap.size + 1) 5 1 v' (es.length + 1) ((es.map ((fun n : Nat => Value.int .u8 (n : Int)) ∘ fun d => 48 + d)) ++ [.int .u8 (48 + (g : Int) % 10)]))
    (hgrow : (wr.alloc (.cells #[.int .u8 (48 + (g : Int) % 10)] 5)).grownBy w3 lv.ownBlock) :
    Own w3 w.heap.size 58 .u32 (.slice (some ⟨w.heap.size, 0, none⟩) len L) qs ∧ Own w3 (w.heap.size + 1) 5 .u8 v' ((es ++ [g % 10]).map (fun d => 48 + d)) ∧ Below w.heap.size w w3 ∧ w.heap.size < w3.heap.size := by
  have b1 : Below wr.heap.size wr (wr.alloc (.cells #[.int .u8 (48 + (g : Int) % 10)] 5)) := (Below.refl _ _).alloc (Nat.le_refl _) _
  refine ⟨(ownQ.later b1).keep2 (ownL.later b1) (by omega) hgrow, ?_, ?_, ?_⟩
  · unfold Own
    have e : (48 + (g : Int) % 10) = ((48 + g % 10 : Nat) : Int) := by omega
    rw [e] at hown'
    simpa using hown'
  · refine (below_trans bel b1).grown hgrow (Nat.le_trans bel.size b1.size) (fun k hk => ?_)
    have := (World.ownsRow.lt ownL k hk).1
    omega
  · exact Nat.lt_of_lt_of_le hsz (Nat.le_trans b1.size hgrow.size)

theorem dec_text {n k : Nat} {ds : List Nat} (hne : n ≠ 0) (hn : n = Dg.vl 10 ds) (htr : ds.take k = Dg.dg 10 (Dg.vl 10 ds)) : strOf (((ds.map (fun d => 48 + d)).take k).reverse) = decS n := by
  subst hn
  unfold decS
  rw [if_neg hne, ← List.map_take, htr]

set_option maxRecDepth 100000 in
set_option maxHeartbeats 3200000 in
theorem decimal_any (v : Value) (zs : List Nat) (w : World) (h : Rd w .u32 v zs) (hs : Dg.Small 4294967296 zs) (hno : Dg.Norm zs) (hl : zs.length ≤ 1200) :
    Calls Try.prog 67 #[v] w fun e w' => e = .returned (.string (decS (Dg.vl 4294967296 zs))) ∧ Below w.heap.size w w' := by
  obtain ⟨ao, ca, rfl⟩ := h.shape
  by_cases h0 : zs.length = 0
  · obtain rfl : zs = [] := List.eq_nil_of_length_eq_zero h0
    go_enter Try.func67, Try.ntmps67
    go_wp2
    go_ret
    exact ⟨rfl, Below.refl _ _⟩
  · obtain ⟨n, hn⟩ : ∃ n, Dg.vl 4294967296 zs = n := ⟨_, rfl⟩
    have hlt := Dg.vl_lt 4294967296 zs hs
    have hne := Dg.vl_ne_zero 4294967296 (by omega) zs (by intro e; subst e; simp at h0) hno
    have hzn : Dg.dg 4294967296 n = zs := by rw [← hn]; exact Dg.dg_vl _ (by omega) zs hs hno
    rw [hn] at hlt hne ⊢
    have HZ : Hid (Dg.dg 4294967296 n = zs) := hzn
    have HL : Hid (n < 4294967296 ^ zs.length) := hlt
    obtain ⟨i0, hi, hz0, hz1, hz2⟩ := info_parts Try.infoU8
    have hzl : ((zs.length : Int) == 0) = false := by simp; intro e; subst e; simp at h0
    clear hn hzn hlt hs hno
    have hcp := copy_any _ zs w h (by omega)
    go_enter Try.func67, Try.ntmps67
    go_wp2_with fail
    refine hcp.mono ?_
    rintro e w1 ⟨rfl, own1, bel1⟩
    clear hcp
    go_wp2
    go_loopg [3, 4] n (fun m lv rv wr => DecR w zs.length n m lv rv wr)
    case atStart =>
      refine ⟨[], zs.length, rfl, ?_, own_nil _ _ _ _, ⟨Dg.small_nil _ (by omega), by simp [Dg.vl]⟩, bel1, own1.block.2, Nat.le_refl _, by simp⟩
      rw [HZ.out]; exact own1
    case round =>
      clear own1 bel1
      obtain ⟨ds, len, rfl, ownR, ownL, hO, bel, hsz, hlen, hdL⟩ := hrel
      have hlr := ownR.len
      by_cases hm : gk = 0
      · subst hm
        have hnv := hO.2
        simp only [Nat.mul_zero, Nat.add_zero] at hnv
        have hdsne : ds ≠ [] := by intro e; subst e; exact hne hnv
        have hl0 : len = 0 := by rw [hlr]; rfl
        subst hl0
        obtain ⟨g, cap, rfl, hgb, hgs⟩ := ownL.shapeOf (by simpa using hdsne)
        have hcl : ∀ k, k < ds.length → wr.cell? ⟨g, k, none⟩ = some (.int .u8 ((48 + ds.getD k 0 : Nat) : Int)) := fun k hk => by
          rw [ownL.cell k (by simpa using hk)]
          simp [List.getD_eq_getElem?_getD, hk]
        have Hnv : Hid (n = Dg.vl 10 ds) := hnv
        have Hcl : Hid (∀ k, k < ds.length → wr.cell? ⟨g, k, none⟩ = some (.int .u8 ((48 + ds.getD k 0 : Nat) : Int))) := hcl
        clear hnv hcl hlr
        simp only [List.length_map] at ownL ⊢
        have hcap := ownL.cap
        go_wp2
        go_loop [6] (fun iv => ∃ k : Nat, 0 < k ∧ k ≤ ds.length ∧ iv = .int .i64 k ∧ Hid (∀ i, k ≤ i → ds.getD i 0 = 0)) (fun iv => (intOf iv).toNat)
        case atStart => exact ⟨ds.length, List.length_pos_iff.2 hdsne, Nat.le_refl _, rfl, fun i hi => Dg.getD_of_le _ _ hi⟩
        case round =>
          obtain ⟨k, hk0, hk, rfl, hz⟩ := hrel
          have h1 := Hcl.out (k - 1) (by omega)
          obtain ⟨d, hd⟩ : ∃ d, ds.getD (k - 1) 0 = d := ⟨_, rfl⟩
          rw [hd] at h1
          have hd10 : d < 10 := by rw [← hd]; exact hO.1 _
          have Hd : Hid (ds.getD (k - 1) 0 = d) := hd
          clear hd
          by_cases hd0 : d = 0
          · subst hd0
            have hk1 : k ≠ 1 := by
              intro e; subst e
              refine hne (Hnv.out.trans (Dg.vl_zeros 10 ds (fun i => ?_)))
              by_cases e : i = 0
              · rw [e]; exact Hd.out
              · exact hz i (by omega)
            go_wp2
            go_round
            case rel => exact ⟨k - 1, by omega, by omega, by go_num, fun i hi => by
              by_cases e : i = k - 1
              · rw [e]; exact Hd.out
              · exact hz i (by omega)⟩
            case measure => simp [intOf]; omega
          · have ownT := ownL.take k (by simpa using hk)
            have hrv := reverse_any g k cap (w.heap.size + 1) _ wr ownT (by simp; omega)
            have hne48 : ((48 + (d : Int)) == 48) = false := by simp; omega
            go_wp2_with fail
            refine hrv.mono ?_
            rintro e w3 ⟨rfl, ownV, gr⟩
            have hcv := convert_bytes 77 9 Try.underlying77 Try.underlying5 Try.underlying9 ownV
            have htr := Dg.trim_eq 10 (by omega) ds k hO.1 hk hz (fun _ => by rw [Hd.out]; exact hd0)
            have bel3 := below_of_grown bel bel.size gr (by omega)
            have HF : Hid (strOf (((ds.map (fun d => 48 + d)).take k).reverse) = decS n) := dec_text hne Hnv.out htr
            clear htr hrv
            go_wp2
            go_ret
            exact ⟨by rw [← HF.out]; rfl, bel3⟩
      · have hne2 : Dg.dg 4294967296 gk ≠ [] := fun e => hm ((Dg.dg_nil_iff _ _ (by omega)).1 e)
        have hpos : 0 < len := by
          rcases Nat.eq_zero_or_pos len with e | e
          · exact absurd (List.eq_nil_of_length_eq_zero (by omega)) hne2
          · exact e
        have hdl := decO_len hO hm HL.out
        have hdb := divideBy_dec w.heap.size len zs.length w.heap.size gk wr ownR (by omega)
        have hI := decI_start hO
        have hgm : gk % 1000000000 < 1000000000 := Nat.mod_lt _ (by omega)
        have Hlr : Hid (len = (Dg.dg 4294967296 gk).length) := hlr
        clear hlr hne2
        go_wp2_with fail
        refine hdb.mono ?_
        rintro e w2 ⟨qs, rfl, ownQ, hqs, hqv, gr⟩
        have ownL2 := ownL.keep gr (by omega)
        have bel2 := below_of_grown bel bel.size gr (Nat.le_refl _)
        have hsz2 : w.heap.size < w2.heap.size := Nat.lt_of_lt_of_le hsz gr.size
        have Hqv : Hid (Dg.vl 4294967296 qs = gk / 1000000000) := hqv
        clear hdb gr ownR ownL bel hsz hO hqv
        go_wp2
        go_loopw [3, 5, 20] (fun lv gv jv wr => DecS w zs.length n (gk / 1000000000) len ds.length qs lv gv jv wr) (fun _ _ jv _ => (9 - intOf jv).toNat)
        case atStart => exact ⟨ds, 0, gk % 1000000000, rfl, rfl, by omega, by omega, hgm, ownQ, ownL2, hI, bel2, hsz2⟩
        case round =>
          clear ownQ ownL2 hI bel2 hsz2
          obtain ⟨es, j, g, rfl, rfl, hj9, hes, hg9, ownQ, ownL, hI, bel, hsz⟩ := hrel
          by_cases hj : j < 9
          · have hel : es.length < 32 * zs.length + 9 := by omega
            have Hes : Hid (es.length = ds.length + j) := hes
            clear hes
            have hbs := bel.size
            go_wp2_with (at_builtin; refine wpList_append_own _ rfl _ _ 77 rfl (w.heap.size + 1) 5 i0 (.int .u8 0) 1 1 Try.underlying77 hi hz0 hz1 hz2 rfl (by decide) _ _ _ rfl (World.ownsRow.alloc ownL _) ⟨wr.heap.size, 0, none⟩ 1 1 [.int .u8 (48 + (g : Int) % 10)] rfl rfl ?c1 ?c2 ?c3 ?c4 ?c5 ?_)
            case c1 => exact cell_one_new _ _ _
            case c2 => intro u hu; simp at hu; subst hu; rfl
            case c3 => simp only [List.length_map]; unfold maxLen; omega
            case c4 => simp only [List.length_map]; omega
            case c5 => simp; omega
            intro v' w3 hown' hgrow _
            have R := dec_append bel hsz ownQ ownL hown' hgrow
            clear hown' hgrow ownQ ownL
            go_wp2
            go_roundw
            case rel =>
              refine ⟨es ++ [g % 10], j + 1, g / 10, by go_num, by go_num, by omega, ?_, by omega, R.1, R.2.1, decI_step hI hj, R.2.2.1, R.2.2.2⟩
              have := Hes.out
              simp; omega
            case measure => simp [intOf]; omega
          · have hj' : j = 9 := by omega
            subst hj'
            have rdQ := ownQ.rd
            go_wp2_with fail
            refine (trim_any _ _ _ qs _ rdQ).mono ?_
            rintro e w' ⟨k, rfl, hk, rfl⟩
            have ownT := own_trim 4294967296 (by omega) ownQ hqs hk
            rw [Hqv.out] at ownT
            have hkl := hk.1
            have hql := ownQ.len
            go_wp2
            go_roundg (gk / 1000000000)
            case measure => exact Nat.div_lt_self (by omega) (by omega)
            case rel => exact ⟨es, k, rfl, ownT, ownL, decI_end hI, bel, hsz, by omega, by omega⟩
end Go.Proofs.Ytepcafhlhnlgaaa

/-
  Contract of the reference's Decimals.
-/
import Derived.Test.YtepcafhlhnlgaaaRef7
namespace Go.Proofs.Ytepcafhlhnlgaaa
open Go.RowKit

theorem strOf_size (l : List Nat) : (strOf l).size = l.length := by simp [strOf, ByteArray.size]

theorem strOf_cons (c : Nat) (l : List Nat) : strOf [c] ++ strOf l = strOf (c :: l) := by
  apply ByteArray.ext
  simp [strOf]

theorem strOf_drop (l : List Nat) (a : Nat) : (strOf l).extract a (strOf l).size = strOf (l.drop a) := by
  apply ByteArray.ext
  rw [strOf_size, ByteArray.data_extract]
  simp [strOf, List.map_drop]
  exact List.take_of_length_le (by simp)

/-- The text while its digits are taken. -/
def txt (ds : List Nat) : List Nat := (ds.map (fun d => 48 + d)).reverse

theorem txt_snoc (ds : List Nat) (d : Nat) : txt (ds ++ [d]) = (48 + d) :: txt ds := by simp [txt]
theorem txt_length (ds : List Nat) : (txt ds).length = ds.length := by simp [txt]

/-- Within a group of four. -/
def DecJ (n m : Nat) (ds : List Nat) (j g : Nat) : Prop := Dg.Small 10 ds ∧ j ≤ 4 ∧ g < 10 ^ (4 - j) ∧ n = Dg.vl 10 ds + 10 ^ ds.length * (g + 10 ^ (4 - j) * m)

theorem decJ_start {n m : Nat} {ds : List Nat} (h : DecO n ds m) : DecJ n (m / 10000) ds 0 (m % 10000) := by
  refine ⟨h.1, by omega, by simp; omega, ?_⟩
  rw [h.2]
  have : m % 10000 + 10 ^ (4 - 0) * (m / 10000) = m := by simpa using Nat.mod_add_div m 10000
  rw [this]

theorem decJ_step {n m : Nat} {ds : List Nat} {j g : Nat} (h : DecJ n m ds j g) (hj : j < 4) : DecJ n m (ds ++ [g % 10]) (j + 1) (g / 10) := by
  obtain ⟨h1, h2, h3, h4⟩ := h
  have e : 4 - j = (4 - (j + 1)) + 1 := by omega
  rw [e, Nat.pow_succ] at h3 h4
  refine ⟨small_snoc h1 (Nat.mod_lt _ (by omega)), by omega, by omega, ?_⟩
  rw [Dg.vl_append]
  simp only [Dg.vl, List.length_append, List.length_cons, List.length_nil, Nat.pow_succ]
  rw [h4]
  generalize 10 ^ (4 - (j + 1)) = p at *
  have e2 : g + p * 10 * m = g % 10 + 10 * (g / 10 + p * m) := by
    have := Nat.mod_add_div g 10
    rw [Nat.mul_add, Nat.mul_comm p 10, Nat.mul_assoc]; omega
  rw [e2, Nat.mul_add]
  simp only [Nat.mul_zero, Nat.add_zero]
  rw [Nat.mul_assoc]
  omega

theorem decJ_end {n m : Nat} {ds : List Nat} {g : Nat} (h : DecJ n m ds 4 g) : DecO n ds m := by
  obtain ⟨h1, h2, h3, h4⟩ := h
  have : g = 0 := by simpa using h3
  subst this
  exact ⟨h1, by simpa using h4⟩

theorem txt_getD (ds : List Nat) (i : Nat) (h : i < ds.length) : (txt ds).getD i 0 = 48 + ds.getD (ds.length - 1 - i) 0 := by
  have h2 : ds.length - 1 - i < ds.length := by omega
  simp [txt, List.getD_eq_getElem?_getD, h, h2]

theorem strOf_get (l : List Nat) (i : Nat) (h : i < (strOf l).size) (hl : ∀ j, l.getD j 0 < 256) : ((strOf l)[i]'h).toNat = l.getD i 0 := by
  have h1 : i < l.length := by rw [strOf_size] at h; exact h
  have := hl i
  simp only [List.getD_eq_getElem?_getD, List.getElem?_eq_getElem h1, Option.getD_some] at this ⊢
  show ((strOf l).data[i]).toNat = _
  simp [strOf, Nat.mod_eq_of_lt this]

/-- What is left when leading noughts are dropped: at are dropped. -/
theorem dec_final {n at' : Nat} {ds : List Nat} (hO : DecO n ds 0) (hl : at' + 1 ≤ ds.length) (hz : ∀ i, i < at' → ds.getD (ds.length - 1 - i) 0 = 0) (hs : at' + 1 = ds.length ∨ ds.getD (ds.length - 1 - at') 0 ≠ 0) :
    strOf ((txt ds).drop at') = decS n := by
  have hn := hO.2
  simp only [Nat.mul_zero, Nat.add_zero] at hn
  have hdrop : (txt ds).drop at' = txt (ds.take (ds.length - at')) := by
    unfold txt
    rw [List.drop_reverse]
    simp [List.map_take]
  have hz2 : ∀ i, ds.length - at' ≤ i → ds.getD i 0 = 0 := fun i hi => by
    by_cases h : i < ds.length
    · have := hz (ds.length - 1 - i) (by omega)
      rwa [show ds.length - 1 - (ds.length - 1 - i) = i from by omega] at this
    · exact Dg.getD_of_le _ _ (by omega)
  rw [hdrop]
  unfold decS
  by_cases h0 : n = 0
  · rw [if_pos h0]
    have hall : ∀ i, ds.getD i 0 = 0 := by
      rcases hs with hs | hs
      · have h1 : Dg.vl 10 ds = 0 := by omega
        have ht := Dg.vl_take_drop 10 ds 1 (by omega)
        have hd : Dg.vl 10 (ds.take 1) = 0 := by omega
        have h3 := Dg.vl_take_succ 10 ds 0 (by omega)
        simp only [Dg.vl, List.take_zero, Nat.zero_add, Nat.pow_zero, Nat.one_mul] at h3
        intro i
        by_cases hi : i = 0
        · subst hi; omega
        · exact hz2 i (by omega)
      · exfalso
        have ht := Dg.trim_eq 10 (by omega) ds (ds.length - at') hO.1 (by omega) hz2 (fun _ => by rw [show ds.length - at' - 1 = ds.length - 1 - at' from by omega]; exact hs)
        rw [show Dg.vl 10 ds = 0 from by omega, Dg.dg_zero] at ht
        have := congrArg List.length ht
        simp at this
        omega
    rcases hs with hs | hs
    · have h1 : ds.length - at' = 1 := by omega
      rw [h1, show ds.take 1 = [0] from ?_]
      · rfl
      · rw [Dg.take_succ' ds 0 (by omega), hall 0]; rfl
    · exact absurd (hall _) hs
  · rw [if_neg h0]
    have hlast : ds.getD (ds.length - at' - 1) 0 ≠ 0 := by
      rcases hs with hs | hs
      · intro e
        apply h0
        rw [hn]
        refine Dg.vl_zeros 10 ds (fun i => ?_)
        by_cases hi : i < ds.length - at'
        · rw [show i = ds.length - at' - 1 from by omega]; exact e
        · exact hz2 i (by omega)
      · rwa [show ds.length - at' - 1 = ds.length - 1 - at' from by omega]
    rw [Dg.trim_eq 10 (by omega) ds (ds.length - at') hO.1 (by omega) hz2 (fun _ => hlast), ← hn]
    rfl
/-- What the loop of Decimals keeps. -/
def DecT (w : World) (L n m : Nat) (av sv : Value) (wr : World) : Prop :=
  ∃ (ds : List Nat) (S : ByteArray), Rd wr .i64 av (Dg.dg 65536 m) ∧ sv = .string S ∧ Hid (S = strOf (txt ds)) ∧ DecO n ds m ∧ ds.length ≤ 16 * L ∧ (Dg.dg 65536 m).length ≤ L ∧ Below w.heap.size w wr

/-- What its inner loop keeps. -/
def DecU (w w1 : World) (n m base0 : Nat) (sv gv jv : Value) (wr : World) : Prop :=
  ∃ (ds : List Nat) (S : ByteArray) (j g : Nat), gv = .int .i64 ((g : Nat) : Int) ∧ jv = .int .i64 ((j : Nat) : Int) ∧ j ≤ 4 ∧ ds.length = base0 + j ∧ g < 10000 ∧ sv = .string S ∧ Hid (S = strOf (txt ds)) ∧ S.size = base0 + j ∧ DecJ n m ds j g ∧ Below w.heap.size w wr ∧ Below w1.heap.size w1 wr

theorem own_one (w : World) (base e g : Nat) (hb : base ≤ w.heap.size) : Own (w.alloc (.cells #[.int .u8 (48 + (g : Int) % 10)] e)) base e .u8 (.slice (some ⟨w.heap.size, 0, none⟩) 1 1) [48 + g % 10] := by
  have := World.ownsRow_lit (e := e) (size := 1) (base := base) w #[.int .u8 (48 + (g : Int) % 10)] 1 hb (by unfold maxLen; omega) rfl
  have e1 : (48 + (g : Int) % 10) = ((48 + g % 10 : Nat) : Int) := by omega
  rw [e1] at this ⊢
  exact this

set_option maxRecDepth 100000 in
set_option maxHeartbeats 3200000 in
theorem decimals_any (va : Value) (n L : Nat) (w : World) (ha : Rd w .i64 va (Dg.dg 65536 n)) (hL : (Dg.dg 65536 n).length ≤ L) (hLl : L ≤ 100000) :
    Calls Try.prog 44 #[va] w fun e w' => e = .returned (.string (decS n)) ∧ Below w.heap.size w w' := by
  have hnl : n < 65536 ^ L := by
    have := Dg.vl_lt 65536 (Dg.dg 65536 n) (Dg.small_dg _ _ (by omega))
    rw [Dg.vl_dg _ _ (by omega)] at this
    exact Nat.lt_of_lt_of_le this (Nat.pow_le_pow_right (by omega) hL)
  have HNL : Hid (n < 65536 ^ L) := hnl
  clear hnl
  obtain ⟨ao, ca, rfl⟩ := ha.shape
  go_enter Try.func44, Try.ntmps44
  go_wp2
  go_loopg [0, 3] n (fun m av sv wr => DecT w L n m av sv wr)
  case atStart => exact ⟨[], _, ha, rfl, rfl, ⟨Dg.small_nil _ (by omega), by simp [Dg.vl]⟩, by simp, hL, Below.refl _ _⟩
  case round =>
    obtain ⟨ds, S, hr, rfl, hS, hO, hdl, hml, bel⟩ := hrel
    obtain ⟨ao2, ca2, rfl⟩ := hr.shape
    have a1 : Below wr.heap.size wr (wr.alloc (.cells #[.int .i64 10000] 3)) := (Below.refl _ _).alloc (Nat.le_refl _) _
    have r1 := rd_new (w := wr) (k := .i64) (e := 3) [10000] #[.int .i64 10000] rfl (by unfold maxLen; simp)
    have hin := into1_any _ _ _ 10000 _ (hr.later a1) r1 (Dg.small_dg _ _ (by omega)) (by omega) (by omega) (by omega)
    rw [Dg.vl_dg _ _ (by omega)] at hin
    simp only [show [10000].length = 1 from rfl] at hin
    have hJ := decJ_start hO
    have hg4 : gk % 10000 < 10000 := Nat.mod_lt _ (by omega)
    have hone := one_digit (gk % 10000) (by omega)
    have b1 := below_trans bel a1
    have hSs : S.size = ds.length := by rw [hS.out, strOf_size, txt_length]
    clear r1
    go_wp2_with fail
    refine hin.mono ?_
    rintro e w1 ⟨vq, vr, rfl, rq, rr, k1⟩
    have b2 := below_trans b1 k1
    clear hin
    obtain ⟨qo, qc, rfl⟩ := rq.shape
    obtain ⟨ro, rc, rfl⟩ := rr.shape
    have hqn : (Dg.dg 65536 (gk / 10000)).length ≤ L := Nat.le_trans (dg_len_mono _ _ _ (by omega) (Nat.div_le_self _ _)) hml
    have hqz := Dg.dg_nil_iff 65536 (gk / 10000) (by omega)
    have hgd : ∀ w2, Below w1.heap.size w1 w2 → gk % 10000 ≠ 0 → (Dg.dg 65536 (gk % 10000)).length = 1 ∧ ∃ b off, ro = some ⟨b, off, none⟩ ∧ w2.cell? ⟨b, off, none⟩ = some (.int .i64 ((gk % 10000 : Nat) : Int)) := fun w2 k2 h0 => by
      rw [if_neg h0] at hone
      obtain ⟨-, -, hc⟩ := rd_open rr
      rw [hone] at hc ⊢
      obtain ⟨b, off, e, hcell⟩ := hc (by simp)
      exact ⟨rfl, b, off, e, cell_later k2 (by simpa using hcell 0 (by simp))⟩
    have hgz : gk % 10000 = 0 → (Dg.dg 65536 (gk % 10000)).length = 0 := fun h0 => by rw [h0]; rfl
    obtain ⟨g, hg⟩ : ∃ g, gk % 10000 = g := ⟨_, rfl⟩
    obtain ⟨rl, hrl⟩ : ∃ rl, (Dg.dg 65536 (gk % 10000)).length = rl := ⟨_, rfl⟩
    rw [hrl] at hgd hgz ⊢
    rw [hg] at hgd hgz hJ hg4
    obtain ⟨ql, hql⟩ : ∃ ql, (Dg.dg 65536 (gk / 10000)).length = ql := ⟨_, rfl⟩
    have HQ : Hid ((Dg.dg 65536 (gk / 10000)).length = ql) := hql
    have hq0 : ql = 0 ↔ gk / 10000 = 0 := by
      rw [← hql, ← hqz]
      exact List.length_eq_zero_iff
    rw [hql] at rq hqn ⊢
    have hqlen : Rd w1 .i64 (.slice qo ql qc) (Dg.dg 65536 (gk / 10000)) := rq
    have HQ0 : Hid (ql = 0 ↔ gk / 10000 = 0) := hq0
    have HSS : Hid (S.size = ds.length) := hSs
    have hslen : S.size ≤ 16 * L := by omega
    clear hone hqz hrl hg hql rr hr hq0 hSs hO a1 bel b1 rq
    have fact : g = 0 ∧ rl = 0 ∨ rl = 1 ∧ ∃ b off, ro = some ⟨b, off, none⟩ ∧ w1.cell? ⟨b, off, none⟩ = some (.int .i64 ((g : Nat) : Int)) := by
      by_cases h0 : g = 0
      · exact .inl ⟨h0, hgz h0⟩
      · obtain ⟨h1, b, off, e, hc⟩ := hgd w1 (Below.refl _ _) h0
        exact .inr ⟨h1, b, off, e, hc⟩
    clear hgd hgz
    have start : DecU w w1 n (gk / 10000) ds.length (.string S) (.int .i64 ((g : Nat) : Int)) (.int .i64 ((0 : Nat) : Int)) w1 := ⟨ds, S, 0, g, rfl, rfl, by omega, by omega, hg4, rfl, hS, by rw [HSS.out]; omega, hJ, b2, Below.refl _ _⟩
    rcases fact with ⟨h0, hrl⟩ | ⟨hrl, b, off, hro, hc⟩
    · subst h0 hrl
      go_wp2
      go_loopw [3, 6, 7] (fun sv gv jv wr => DecU w w1 n (gk / 10000) ds.length sv gv jv wr) (fun _ _ jv _ => (4 - intOf jv).toNat)
      case atStart => exact start
      case round =>
        clear start hJ b2
        obtain ⟨es, T, j, g2, rfl, rfl, hj4, hes, hg2, rfl, hT, hTs, hJ2, bel, bq⟩ := hrel
        have HTS : Hid (T.size = ds.length + j) := hTs
        have HES : Hid (es.length = ds.length + j) := hes
        have hTl : T.size ≤ 16 * L + 4 := by have := HSS.out; omega
        clear hTs hes
        by_cases hj : j < 4
        · have own1 := own_one wr 0 5 g2 (Nat.zero_le _)
          have hcv := convert_bytes 77 9 Try.underlying77 Try.underlying5 Try.underlying9 own1
          have hsz1 : (strOf [48 + g2 % 10]).size ≤ 1 := by rw [strOf_size]; simp
          have hcs : strOf [48 + g2 % 10] ++ T = strOf (txt (es ++ [g2 % 10])) := by rw [hT.out, strOf_cons, txt_snoc]
          have hcz : (strOf [48 + g2 % 10] ++ T).size = ds.length + (j + 1) := by rw [hcs, strOf_size, txt_length]; have := HES.out; simp; omega
          obtain ⟨C, hC⟩ : ∃ C, strOf [48 + g2 % 10] = C := ⟨_, rfl⟩
          rw [hC] at hcv hsz1 hcs hcz
          have HCS : Hid (C ++ T = strOf (txt (es ++ [g2 % 10]))) := hcs
          have HCZ : Hid ((C ++ T).size = ds.length + (j + 1)) := hcz
          have b4 := bq.alloc bq.size (.cells #[.int .u8 (48 + (g2 : Int) % 10)] 5)
          have b3 := bel.alloc bel.size (.cells #[.int .u8 (48 + (g2 : Int) % 10)] 5)
          clear hC hcs hcz own1
          go_wp2
          go_roundw
          case rel => exact ⟨es ++ [g2 % 10], C ++ T, j + 1, g2 / 10, by go_num, by go_num, by omega, by have := HES.out; simp; omega, by omega, rfl, HCS.out, HCZ.out, decJ_step hJ2 hj, b3, b4⟩
          case measure => simp [intOf]; omega
        · have hj' : j = 4 := by omega
          subst hj'
          have hO2 := decJ_end hJ2
          by_cases hq : ql = 0
          · subst hq
            have hm0 : gk / 10000 = 0 := HQ0.out.1 rfl
            rw [hm0] at hO2
            obtain ⟨E, hE⟩ : ∃ E, T.size = E := ⟨_, rfl⟩
            have HE : Hid (es.length = E) := by show _ = _; rw [← hE, HES.out, HTS.out]
            have hE4 : 4 ≤ E := by rw [← hE, HTS.out]; omega
            have hfin : ∀ k, k + 1 ≤ es.length → (∀ i, i < k → es.getD (es.length - 1 - i) 0 = 0) → (k + 1 = es.length ∨ es.getD (es.length - 1 - k) 0 ≠ 0) → T.extract k T.size = decS n := fun k h1 h2 h3 => by
              rw [hT.out, strOf_drop]; exact dec_final hO2 h1 h2 h3
            rw [hE] at hfin hTl
            have hix : ∀ k, k < es.length → ∀ w, (Instr.index 9 (.string T) (.int .i64 (k : Int))).run Try.prog w = .ok (.int .u8 ((48 + es.getD (es.length - 1 - k) 0 : Nat) : Int)) w := fun k hk w => by
              have hks : k < T.size := by rw [hE, ← HE.out]; exact hk
              rw [run_index_string w 9 T .i64 (k : Int) Try.underlying9, dif_pos ⟨by omega, by omega⟩]
              congr 3
              have hts : k < (strOf (txt es)).size := by rw [strOf_size, txt_length]; exact hk
              have e1 : (T[(k : Int).toNat]'(by omega)).toNat = ((strOf (txt es))[k]'hts).toNat := by
                have := hT.out
                subst this
                rfl
              rw [e1, strOf_get _ _ hts (fun j => ?_), txt_getD es k hk]
              by_cases hjl : j < es.length
              · rw [txt_getD es j hjl]; have := hO2.1 (es.length - 1 - j); omega
              · rw [Dg.getD_of_le _ _ (by rw [txt_length]; omega)]; omega
            have HIX : Hid (∀ k, k < es.length → ∀ w, (Instr.index 9 (.string T) (.int .i64 (k : Int))).run Try.prog w = .ok (.int .u8 ((48 + es.getD (es.length - 1 - k) 0 : Nat) : Int)) w) := hix
            have HFIN : Hid (∀ k, k + 1 ≤ es.length → (∀ i, i < k → es.getD (es.length - 1 - i) 0 = 0) → (k + 1 = es.length ∨ es.getD (es.length - 1 - k) 0 ≠ 0) → T.extract k E = decS n) := hfin
            have hds := hO2.1
            clear hix hfin hJ2 hm0
            go_wp2
            go_loop [8] (fun iv => ∃ k : Nat, k + 1 ≤ E ∧ iv = .int .i64 k ∧ Hid (∀ i, i < k → es.getD (es.length - 1 - i) 0 = 0)) (fun iv => E - (intOf iv).toNat)
            case atStart => exact ⟨0, by omega, rfl, fun i hi => by omega⟩
            case round =>
              obtain ⟨k, hk, rfl, hz⟩ := hrel
              by_cases hl : k + 1 < E
              · have hi1 := HIX.out k (by rw [HE.out]; omega)
                have hd10 := hds (es.length - 1 - k)
                obtain ⟨d, hd⟩ : ∃ d, es.getD (es.length - 1 - k) 0 = d := ⟨_, rfl⟩
                rw [hd] at hi1 hd10
                have Hd : Hid (es.getD (es.length - 1 - k) 0 = d) := hd
                clear hd
                by_cases hd0 : d = 0
                · subst hd0
                  go_wp2
                  go_round
                  case rel => exact ⟨k + 1, by omega, by go_num, fun i hi => by
                    by_cases e : i = k
                    · rw [e]; exact Hd.out
                    · exact hz i (by omega)⟩
                  case measure => simp [intOf]; omega
                · have hne : ((48 + (d : Int)) == 48) = false := by simp; omega
                  have HF : Hid (T.extract k E = decS n) := HFIN.out k (by rw [HE.out]; omega) hz (.inr (by rw [Hd.out]; exact hd0))
                  go_wp2
                  go_ret
                  exact ⟨by rw [← HF.out]; rfl, bel⟩
              · have hke : k + 1 = E := by omega
                have HF : Hid (T.extract k E = decS n) := HFIN.out k (by rw [HE.out]; omega) hz (.inl (by rw [HE.out]; exact hke))
                have hl2 : ¬ ((k : Int) < (E : Int) - 1) := by omega
                clear hke
                go_wp2
                go_ret
                exact ⟨by rw [← HF.out]; rfl, bel⟩
          · have hqb : ((ql : Int) == 0) = false := by simp; exact hq
            have hm0 : gk / 10000 ≠ 0 := fun e => hq (HQ0.out.2 e)
            have hel : es.length ≤ 16 * L := by
              have h1 : 10 ^ es.length ≤ 10 ^ es.length * (gk / 10000) := Nat.le_mul_of_pos_right _ (by omega)
              have h2 := hO2.2
              have h3 : 2 ^ es.length ≤ 10 ^ es.length := Nat.pow_le_pow_left (by omega) _
              have h4 : (65536 : Nat) ^ L = 2 ^ (16 * L) := by rw [Nat.pow_mul]
              have h5 := HNL.out
              rw [h4] at h5
              have := (Nat.pow_lt_pow_iff_right (by omega : 1 < 2)).1 (Nat.lt_of_le_of_lt (Nat.le_trans h3 (Nat.le_trans h1 (by omega))) h5)
              omega
            have hbw : Rd wr .i64 (.slice qo ql qc) (Dg.dg 65536 (gk / 10000)) := hqlen.later bq
            clear hqb
            go_wp2
            go_roundg (gk / 10000)
            case measure => exact Nat.div_lt_self (by omega) (by omega)
            case rel => exact ⟨es, T, hbw, rfl, hT, hO2, hel, by rw [HQ.out]; exact hqn, bel⟩
    · subst hrl hro
      go_wp2
      go_loopw [3, 6, 7] (fun sv gv jv wr => DecU w w1 n (gk / 10000) ds.length sv gv jv wr) (fun _ _ jv _ => (4 - intOf jv).toNat)
      case atStart => exact start
      case round =>
        clear start hJ b2
        obtain ⟨es, T, j, g2, rfl, rfl, hj4, hes, hg2, rfl, hT, hTs, hJ2, bel, bq⟩ := hrel
        have HTS : Hid (T.size = ds.length + j) := hTs
        have HES : Hid (es.length = ds.length + j) := hes
        have hTl : T.size ≤ 16 * L + 4 := by have := HSS.out; omega
        clear hTs hes
        by_cases hj : j < 4
        · have own1 := own_one wr 0 5 g2 (Nat.zero_le _)
          have hcv := convert_bytes 77 9 Try.underlying77 Try.underlying5 Try.underlying9 own1
          have hsz1 : (strOf [48 + g2 % 10]).size ≤ 1 := by rw [strOf_size]; simp
          have hcs : strOf [48 + g2 % 10] ++ T = strOf (txt (es ++ [g2 % 10])) := by rw [hT.out, strOf_cons, txt_snoc]
          have hcz : (strOf [48 + g2 % 10] ++ T).size = ds.length + (j + 1) := by rw [hcs, strOf_size, txt_length]; have := HES.out; simp; omega
          obtain ⟨C, hC⟩ : ∃ C, strOf [48 + g2 % 10] = C := ⟨_, rfl⟩
          rw [hC] at hcv hsz1 hcs hcz
          have HCS : Hid (C ++ T = strOf (txt (es ++ [g2 % 10]))) := hcs
          have HCZ : Hid ((C ++ T).size = ds.length + (j + 1)) := hcz
          have b4 := bq.alloc bq.size (.cells #[.int .u8 (48 + (g2 : Int) % 10)] 5)
          have b3 := bel.alloc bel.size (.cells #[.int .u8 (48 + (g2 : Int) % 10)] 5)
          clear hC hcs hcz own1
          go_wp2
          go_roundw
          case rel => exact ⟨es ++ [g2 % 10], C ++ T, j + 1, g2 / 10, by go_num, by go_num, by omega, by have := HES.out; simp; omega, by omega, rfl, HCS.out, HCZ.out, decJ_step hJ2 hj, b3, b4⟩
          case measure => simp [intOf]; omega
        · have hj' : j = 4 := by omega
          subst hj'
          have hO2 := decJ_end hJ2
          by_cases hq : ql = 0
          · subst hq
            have hm0 : gk / 10000 = 0 := HQ0.out.1 rfl
            rw [hm0] at hO2
            obtain ⟨E, hE⟩ : ∃ E, T.size = E := ⟨_, rfl⟩
            have HE : Hid (es.length = E) := by show _ = _; rw [← hE, HES.out, HTS.out]
            have hE4 : 4 ≤ E := by rw [← hE, HTS.out]; omega
            have hfin : ∀ k, k + 1 ≤ es.length → (∀ i, i < k → es.getD (es.length - 1 - i) 0 = 0) → (k + 1 = es.length ∨ es.getD (es.length - 1 - k) 0 ≠ 0) → T.extract k T.size = decS n := fun k h1 h2 h3 => by
              rw [hT.out, strOf_drop]; exact dec_final hO2 h1 h2 h3
            rw [hE] at hfin hTl
            have hix : ∀ k, k < es.length → ∀ w, (Instr.index 9 (.string T) (.int .i64 (k : Int))).run Try.prog w = .ok (.int .u8 ((48 + es.getD (es.length - 1 - k) 0 : Nat) : Int)) w := fun k hk w => by
              have hks : k < T.size := by rw [hE, ← HE.out]; exact hk
              rw [run_index_string w 9 T .i64 (k : Int) Try.underlying9, dif_pos ⟨by omega, by omega⟩]
              congr 3
              have hts : k < (strOf (txt es)).size := by rw [strOf_size, txt_length]; exact hk
              have e1 : (T[(k : Int).toNat]'(by omega)).toNat = ((strOf (txt es))[k]'hts).toNat := by
                have := hT.out
                subst this
                rfl
              rw [e1, strOf_get _ _ hts (fun j => ?_), txt_getD es k hk]
              by_cases hjl : j < es.length
              · rw [txt_getD es j hjl]; have := hO2.1 (es.length - 1 - j); omega
              · rw [Dg.getD_of_le _ _ (by rw [txt_length]; omega)]; omega
            have HIX : Hid (∀ k, k < es.length → ∀ w, (Instr.index 9 (.string T) (.int .i64 (k : Int))).run Try.prog w = .ok (.int .u8 ((48 + es.getD (es.length - 1 - k) 0 : Nat) : Int)) w) := hix
            have HFIN : Hid (∀ k, k + 1 ≤ es.length → (∀ i, i < k → es.getD (es.length - 1 - i) 0 = 0) → (k + 1 = es.length ∨ es.getD (es.length - 1 - k) 0 ≠ 0) → T.extract k E = decS n) := hfin
            have hds := hO2.1
            clear hix hfin hJ2 hm0
            go_wp2
            go_loop [8] (fun iv => ∃ k : Nat, k + 1 ≤ E ∧ iv = .int .i64 k ∧ Hid (∀ i, i < k → es.getD (es.length - 1 - i) 0 = 0)) (fun iv => E - (intOf iv).toNat)
            case atStart => exact ⟨0, by omega, rfl, fun i hi => by omega⟩
            case round =>
              obtain ⟨k, hk, rfl, hz⟩ := hrel
              by_cases hl : k + 1 < E
              · have hi1 := HIX.out k (by rw [HE.out]; omega)
                have hd10 := hds (es.length - 1 - k)
                obtain ⟨d, hd⟩ : ∃ d, es.getD (es.length - 1 - k) 0 = d := ⟨_, rfl⟩
                rw [hd] at hi1 hd10
                have Hd : Hid (es.getD (es.length - 1 - k) 0 = d) := hd
                clear hd
                by_cases hd0 : d = 0
                · subst hd0
                  go_wp2
                  go_round
                  case rel => exact ⟨k + 1, by omega, by go_num, fun i hi => by
                    by_cases e : i = k
                    · rw [e]; exact Hd.out
                    · exact hz i (by omega)⟩
                  case measure => simp [intOf]; omega
                · have hne : ((48 + (d : Int)) == 48) = false := by simp; omega
                  have HF : Hid (T.extract k E = decS n) := HFIN.out k (by rw [HE.out]; omega) hz (.inr (by rw [Hd.out]; exact hd0))
                  go_wp2
                  go_ret
                  exact ⟨by rw [← HF.out]; rfl, bel⟩
              · have hke : k + 1 = E := by omega
                have HF : Hid (T.extract k E = decS n) := HFIN.out k (by rw [HE.out]; omega) hz (.inl (by rw [HE.out]; exact hke))
                have hl2 : ¬ ((k : Int) < (E : Int) - 1) := by omega
                clear hke
                go_wp2
                go_ret
                exact ⟨by rw [← HF.out]; rfl, bel⟩
          · have hqb : ((ql : Int) == 0) = false := by simp; exact hq
            have hm0 : gk / 10000 ≠ 0 := fun e => hq (HQ0.out.2 e)
            have hel : es.length ≤ 16 * L := by
              have h1 : 10 ^ es.length ≤ 10 ^ es.length * (gk / 10000) := Nat.le_mul_of_pos_right _ (by omega)
              have h2 := hO2.2
              have h3 : 2 ^ es.length ≤ 10 ^ es.length := Nat.pow_le_pow_left (by omega) _
              have h4 : (65536 : Nat) ^ L = 2 ^ (16 * L) := by rw [Nat.pow_mul]
              have h5 := HNL.out
              rw [h4] at h5
              have := (Nat.pow_lt_pow_iff_right (by omega : 1 < 2)).1 (Nat.lt_of_le_of_lt (Nat.le_trans h3 (Nat.le_trans h1 (by omega))) h5)
              omega
            have hbw : Rd wr .i64 (.slice qo ql qc) (Dg.dg 65536 (gk / 10000)) := hqlen.later bq
            clear hqb
            go_wp2
            go_roundg (gk / 10000)
            case measure => exact Nat.div_lt_self (by omega) (by omega)
            case rel => exact ⟨es, T, hbw, rfl, hT, hO2, hel, by rw [HQ.out]; exact hqn, bel⟩
end Go.Proofs.Ytepcafhlhnlgaaa

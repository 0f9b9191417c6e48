/-
  Texts laid together: Dr1, Dr2, Dl1, Dl2, Dr4.
-/
import Derived.Test.YtmjhlflemfkflaaGreatDoorDa
import Derived.Test.YtmjhlflemfkflaaGreatDoorDb
/-
  The reference's numbers with a point: Bared, OfDyad.
-/
namespace Go.Proofs.YtmjhlflemfkflaaGreatDoor
open Go.RowKit

/-- The value v is this number of the reference's. -/
def Rv (w : World) (v : Value) (t : Trip) : Prop := ∃ s, v = .agg #[.bool t.s, s, .int .i64 t.e] ∧ Rd w .i64 s (Dg.dg 65536 t.n)

def RDRes (w : World) (t : Trip) (e : Ending) (w' : World) : Prop := ∃ s, e = .returned (.agg #[.bool t.s, s, .int .i64 t.e]) ∧ Rd w' .i64 s (Dg.dg 65536 t.n) ∧ Below w.heap.size w w'

/-- As RDRes; and the row is none that lay there ahead of the call. -/
def RDResF (w : World) (t : Trip) (e : Ending) (w' : World) : Prop := ∃ s, e = .returned (.agg #[.bool t.s, s, .int .i64 t.e]) ∧ Rd w' .i64 s (Dg.dg 65536 t.n) ∧ Far w.heap.size s ∧ Below w.heap.size w w'

theorem RDResF.near {w : World} {t : Trip} {e : Ending} {w' : World} (h : RDResF w t e w') : RDRes w t e w' := by
  obtain ⟨s, h1, h2, -, h3⟩ := h
  exact ⟨s, h1, h2, h3⟩

theorem Rv.later {w w' : World} {v : Value} {t : Trip} (h : Rv w v t) (hb : Below w.heap.size w w') : Rv w' v t := by
  obtain ⟨s, hv, hr⟩ := h
  exact ⟨s, hv, hr.later hb⟩

/-- The block of a result that nothing was stored into. -/
def ZB (w : World) (b : Nat) : Prop := b < w.heap.size ∧ ∃ ty, w.heap[b]? = some (.cells #[.bool false, .slice none 0 0, .int .i64 0] ty (0, 0))

theorem ZB.later {w w' : World} {b : Nat} (h : ZB w b) (hb : Below w.heap.size w w') : ZB w' b := by
  obtain ⟨hl, ty, hh⟩ := h
  exact ⟨Nat.lt_of_lt_of_le hl hb.size, ty, (hb.block b hl).trans hh⟩

theorem zb_new (w : World) (ty : TypeId) : ZB (w.alloc (.cells #[.bool false, .slice none 0 0, .int .i64 0] ty)) w.heap.size :=
  ⟨by simp [World.size_alloc], ty, heap_alloc_new _ _⟩

/-- What reads as a number without noughts at its end lies elsewhere. -/
theorem ZB.rd {w : World} {b : Nat} {v : Value} {zs : List Nat} (h : ZB w b) (hr : Rd w .i64 v zs) (hn : Dg.Norm zs) (x0 x1 x2 : Value) :
    Rd (((w.setCell ⟨b, 0, none⟩ x0).setCell ⟨b, 1, none⟩ x1).setCell ⟨b, 2, none⟩ x2) .i64 v zs := by
  obtain ⟨hl, ty, hh⟩ := h
  obtain ⟨ao, cap, rfl, h1, h2, h3⟩ := hr
  refine ⟨ao, cap, rfl, h1, h2, fun hp => ?_⟩
  obtain ⟨c, off, rfl, hc⟩ := h3 hp
  refine ⟨c, off, rfl, fun i hi => ?_⟩
  have hne : c ≠ b := by
    intro e
    subst e
    have k1 := hc (zs.length - 1) (by omega)
    have hz := hn (List.length_pos_iff.1 hp)
    unfold World.cell? at k1
    simp only [hh] at k1
    obtain ⟨o, ho⟩ : ∃ o, off + (zs.length - 1) = o := ⟨_, rfl⟩
    rw [ho] at k1
    generalize zs.getD (zs.length - 1) 0 = d at *
    match o, k1 with
    | 0, k1 => simp at k1
    | 1, k1 => simp at k1
    | 2, k1 => simp at k1; omega
    | o + 3, k1 => simp at k1
  rw [World.cell?_setCell_other (h := by simp), World.cell?_setCell_other (h := by simp), World.cell?_setCell_other (h := by simp)]
  exact hc i hi

/-- The same of digits of 32 bits. -/
theorem rd_set_apart {w : World} {b : Nat} {v : Value} {zs : List Nat} (hr : Rd w .u32 v zs) (h : ZB w b) (_hn : Dg.Norm zs) (x0 x1 x2 : Value) :
    Rd (((w.setCell ⟨b, 0, none⟩ x0).setCell ⟨b, 1, none⟩ x1).setCell ⟨b, 2, none⟩ x2) .u32 v zs := by
  obtain ⟨hl, ty, hh⟩ := h
  obtain ⟨ao, cap, rfl, h1, h2, h3⟩ := hr
  refine ⟨ao, cap, rfl, h1, h2, fun hp => ?_⟩
  obtain ⟨c, off, rfl, hc⟩ := h3 hp
  refine ⟨c, off, rfl, fun i hi => ?_⟩
  have hne : c ≠ b := by
    intro e
    subst e
    have k1 := hc (zs.length - 1) (by omega)
    unfold World.cell? at k1
    simp only [hh] at k1
    obtain ⟨o, ho⟩ : ∃ o, off + (zs.length - 1) = o := ⟨_, rfl⟩
    rw [ho] at k1
    match o, k1 with
    | 0, k1 => simp at k1
    | 1, k1 => simp at k1
    | 2, k1 => simp at k1
    | o + 3, k1 => simp at k1
  rw [World.cell?_setCell_other (h := by simp), World.cell?_setCell_other (h := by simp), World.cell?_setCell_other (h := by simp)]
  exact hc i hi

theorem tz_digit16 (l : List Nat) (k t m : Nat) (hk : k < l.length) (h : ∀ j, j < k → l.getD j 0 = 0) (hd : l.getD k 0 = 2 ^ t * (2 * m + 1)) (ht : t < 16) : tz (Dg.vl 65536 l) = 16 * k + t := by
  have h1 := Dg.vl_split 65536 l k hk
  have h0 : Dg.vl 65536 (l.take k) = 0 := Dg.vl_zeros 65536 (l.take k) (fun i => by
    by_cases hi : i < k
    · have := h i hi
      simpa [List.getD_eq_getElem?_getD, List.getElem?_take, hi] using this
    · simp [List.getD_eq_getElem?_getD, List.getElem?_take, hi])
  rw [h0, hd, Nat.zero_add] at h1
  obtain ⟨u, hu⟩ : ∃ u, Dg.vl 65536 (l.drop (k + 1)) = u := ⟨_, rfl⟩
  rw [hu] at h1
  have e32 : (65536 : Nat) = 2 ^ t * (2 * 2 ^ (15 - t)) := by
    have : (65536 : Nat) = 2 ^ (t + (1 + (15 - t))) := by rw [show t + (1 + (15 - t)) = 16 from by omega]
    rw [this, Nat.pow_add, Nat.pow_add, Nat.pow_one]
  have e1 : (2 : Nat) ^ (16 * k) = 65536 ^ k := by rw [Nat.pow_mul]
  refine tz_eq (m := m + 2 ^ (15 - t) * u) ?_
  rw [h1, Nat.pow_add, e1, Nat.mul_assoc]
  congr 1
  generalize 2 ^ (15 - t) = c at *
  have e2 : 65536 * u = 2 ^ t * (2 * (c * u)) := by rw [e32]; simp only [Nat.mul_assoc]
  rw [e2, ← Nat.mul_add]
  congr 1
  omega

set_option maxRecDepth 100000 in
set_option maxHeartbeats 1600000 in
theorem bared_far (v : Value) (t : Trip) (w : World) (hv : Rv w v t) (hL : (Dg.dg 65536 t.n).length ≤ 100000) (he1 : -1000000 ≤ t.e) (he2 : t.e ≤ 1000000) :
    Calls Tryz.prog 36 #[v] w (RDResF w (bare t)) := by
  obtain ⟨s0, rfl, hr⟩ := hv
  obtain ⟨ao, ca, rfl⟩ := hr.shape
  obtain ⟨ts, n, e⟩ := t
  simp only at hr hL he1 he2 ⊢
  by_cases hn : n = 0
  · subst hn
    rw [show Dg.dg 65536 0 = [] from rfl] at hr ⊢
    rw [show bare ⟨ts, 0, e⟩ = ⟨false, 0, 0⟩ from by unfold bare; rfl]
    go_enter Tryz.func36, Tryz.ntmps36
    go_wp2
    go_returns
    exact ⟨_, rfl, rd_nil _ _, (fun a n c h => by cases h), ((Below.refl _ _).alloc (Nat.le_refl _) _).alloc (by simp [World.size_alloc]) _⟩
  · have h0 : (((Dg.dg 65536 n).length : Int) == 0) = false := by simp [Dg.dg_nil_iff 65536 n (by omega)]; exact hn
    have hsm := Dg.small_dg 65536 n (by omega)
    have hnm := Dg.norm_dg 65536 n (by omega)
    have hvl := Dg.vl_dg 65536 n (by omega)
    have hne : Dg.dg 65536 n ≠ [] := by rw [Ne, Dg.dg_nil_iff 65536 n (by omega)]; exact hn
    obtain ⟨xs, hx⟩ : ∃ xs, Dg.dg 65536 n = xs := ⟨_, rfl⟩
    rw [hx] at hr hL h0 hsm hnm hvl hne ⊢
    have hlp : 0 < xs.length := List.length_pos_iff.2 hne
    have HNM : Hid (xs.getD (xs.length - 1) 0 ≠ 0) := hnm hne
    obtain ⟨-, -, hcb⟩ := rd_open hr
    obtain ⟨b, off, hao, hcell⟩ := hcb hlp
    subst hao
    have bA := below_trans (below_alloc w (.cells #[.bool ts, .slice (some ⟨b, off, none⟩) xs.length ca, .int .i64 e] 34)) (below_alloc _ (.cells #[.bool false, .slice none 0 0, .int .i64 0] 34))
    go_enter Tryz.func36, Tryz.ntmps36
    go_wp2
    go_loop [3] (fun nv => ∃ k : Nat, k < xs.length ∧ nv = .int .i64 ((16 * k : Nat) : Int) ∧ Hid (∀ j, j < k → xs.getD j 0 = 0)) (fun nv => xs.length - (intOf nv).toNat / 16)
    case atStart => exact ⟨0, hlp, rfl, fun j hj => absurd hj (Nat.not_lt_zero j)⟩
    case round =>
      obtain ⟨k, hk, rfl, hzk⟩ := hrel
      have hq : ((16 * k : Nat) : Int) / 16 = (k : Int) := by omega
      have hc := cell_later bA (hcell k hk)
      have hl := hsm k
      obtain ⟨x, hxx⟩ : ∃ x, xs.getD k 0 = x := ⟨_, rfl⟩
      rw [hxx] at hc hl
      have HX : Hid (xs.getD k 0 = x) := hxx
      clear hxx
      by_cases hx0 : x = 0
      · subst hx0
        have hk1 : k + 1 < xs.length := by
          rcases Nat.lt_or_ge (k + 1) xs.length with h | h
          · exact h
          · exfalso
            have : k = xs.length - 1 := by omega
            exact HNM.out (by rw [← this]; exact HX.out)
        go_wp2
        go_round
        case rel => exact ⟨k + 1, hk1, by go_num, fun j hj => by
          by_cases e : j = k
          · rw [e]; exact HX.out
          · exact hzk.out j (by omega)⟩
        case measure => simp [intOf]; omega
      · have h1 : ((x : Int) == 0) = false := by simp; exact hx0
        go_wp2
        have bd : Below (((w.alloc (.cells #[.bool ts, .slice (some ⟨b, off, none⟩) xs.length ca, .int .i64 e] 34)).alloc (.cells #[.bool false, .slice none 0 0, .int .i64 0] 34))).heap.size ((w.alloc (.cells #[.bool ts, .slice (some ⟨b, off, none⟩) xs.length ca, .int .i64 e] 34)).alloc (.cells #[.bool false, .slice none 0 0, .int .i64 0] 34)) ((w.alloc (.cells #[.bool ts, .slice (some ⟨b, off, none⟩) xs.length ca, .int .i64 e] 34)).alloc (.cells #[.bool false, .slice none 0 0, .int .i64 0] 34)).drew := (Below.refl _ _).drew
        have l1 := ((loc_new w (.bool ts) (.slice (some ⟨b, off, none⟩) xs.length ca) (.int .i64 e) 34).later (below_alloc _ (.cells #[.bool false, .slice none 0 0, .int .i64 0] 34))).later bd
        have l2 := (loc_new (w.alloc (.cells #[.bool ts, .slice (some ⟨b, off, none⟩) xs.length ca, .int .i64 e] 34)) (.bool false) (.slice none 0 0) (.int .i64 0) 34).later bd
        have z2 := (zb_new (w.alloc (.cells #[.bool ts, .slice (some ⟨b, off, none⟩) xs.length ca, .int .i64 e] 34)) 34).later bd
        rw [World.size_alloc] at l2 z2
        have b02 := below_trans bA bd
        clear bd
        go_loop [3, 4] (fun nv dv => ∃ j d : Nat, nv = .int .i64 (16 * (k : Int) + (j : Int)) ∧ dv = .int .i64 (d : Int) ∧ 0 < d ∧ d ≤ x ∧ Hid (x = 2 ^ j * d) ∧ j ≤ 16) (fun _ dv => (intOf dv).toNat)
        case atStart => exact ⟨0, x, by simp, rfl, by omega, Nat.le_refl _, by show x = 2 ^ 0 * x; simp, by omega⟩
        case round =>
          obtain ⟨j, d, rfl, rfl, hd0, hdx, hxd, hj⟩ := hrel
          by_cases hev : d % 2 = 0
          · have e1 : ((d : Int) % 2 == 0) = true := by simp; omega
            have hj2 : j + 1 ≤ 16 := by
              rcases Nat.lt_or_ge j 16 with h | h
              · exact h
              · exfalso
                have h2 : 2 ^ 16 ≤ 2 ^ j := Nat.pow_le_pow_right (by omega) h
                have h3 : 2 ^ j * 1 ≤ 2 ^ j * d := Nat.mul_le_mul_left _ (by omega)
                rw [← hxd.out] at h3
                omega
            go_wp2
            go_round
            case rel => exact ⟨j + 1, d / 2, by go_num, by go_num, by omega, by omega, by
              show x = 2 ^ (j + 1) * (d / 2)
              rw [Nat.pow_succ, Nat.mul_assoc, show 2 * (d / 2) = d from by omega]
              exact hxd.out, hj2⟩
            case measure => simp [intOf]; omega
          · have e1 : ((d : Int) % 2 == 0) = false := by simp; omega
            obtain ⟨m, hm⟩ : ∃ m, d = 2 * m + 1 := ⟨d / 2, by omega⟩
            have hj15 : j < 16 := by
              rcases Nat.lt_or_ge j 16 with h | h
              · exact h
              · exfalso
                have h2 : 2 ^ 16 ≤ 2 ^ j := Nat.pow_le_pow_right (by omega) h
                have h3 : 2 ^ j * 1 ≤ 2 ^ j * d := Nat.mul_le_mul_left _ (by omega)
                rw [← hxd.out] at h3
                omega
            have htz := tz_digit16 xs k j m hk hzk.out (by rw [HX.out, ← hm]; exact hxd.out) hj15
            rw [hvl] at htz
            have HB : Hid (bare ⟨ts, n, e⟩ = ⟨ts, n / 2 ^ (16 * k + j), e + (16 * (k : Int) + (j : Int))⟩) := by
              show bare ⟨ts, n, e⟩ = _
              unfold bare
              rw [if_neg hn]
              simp only [htz]
              rw [show ((16 * k + j : Nat) : Int) = 16 * (k : Int) + (j : Int) from by omega]
            have HD : Hid (∀ w1, Below w.heap.size w w1 → Calls Tryz.prog 67 #[.slice (some ⟨b, off, none⟩) xs.length ca, .int .i64 (16 * (k : Int) + (j : Int))] w1 (RNumF w1 (n / 2 ^ (16 * k + j)))) := fun w1 b1 => by
              have := down_far _ xs (16 * k + j) k j _ _ w1 (hr.later b1) hsm (by omega) rfl hj15 (by omega) rfl rfl
              rwa [hvl, show ((16 * k + j : Nat) : Int) = 16 * (k : Int) + (j : Int) from by omega] at this
            obtain ⟨q, hqq⟩ : ∃ q, n / 2 ^ (16 * k + j) = q := ⟨_, rfl⟩
            rw [hqq] at HB HD
            have e5 : IntKind.i64.wrap (e + (16 * (k : Int) + (j : Int))) = e + (16 * (k : Int) + (j : Int)) := IntWalk.i64_in _ ⟨by omega, by omega⟩
            obtain ⟨-, ⟨c0, c1, c2⟩, -⟩ := id l1
            have ne3 : w.heap.size + 1 ≠ w.heap.size := by omega
            clear hqq htz hm hxd hev
            go_wp2
            go_region_held3 (fun wq => wq.cell? ⟨w.heap.size, 0, none⟩ = some (.bool ts) ∧ wq.cell? ⟨w.heap.size, 1, none⟩ = some (.slice (some ⟨b, off, none⟩) xs.length ca) ∧ wq.cell? ⟨w.heap.size, 2, none⟩ = some (.int .i64 e)) (go_keep) (first
              | (go_at_call 67; refine (HD.out _ b02).mono ?_; rintro z w3 ⟨vs, rfl, r3, hF3, b3⟩; have l13 := l1.later b3; have l23 := l2.later b3; have z23 := z2.later b3; have b03 := below_trans b02 b3; obtain ⟨so, sc, hvs⟩ := r3.shape; subst hvs; have HF : Hid (Far w.heap.size (.slice so (Dg.dg 65536 q).length sc)) := hF3.mono b02.size; clear hF3; obtain ⟨-, ⟨p0, p1, p2⟩, -⟩ := id l13; obtain ⟨hl3, ⟨d0, d1, d2⟩, f0, f1, f2⟩ := id l23))
            all_goals go_wp2
            obtain ⟨-, ⟨g0, g1, g2⟩, -⟩ := loc_set l23 (.bool ts) (.slice so (Dg.dg 65536 q).length sc) (.int .i64 (e + (16 * (k : Int) + (j : Int))))
            have r7 := z23.rd r3 (Dg.norm_dg _ _ (by omega)) (.bool ts) (.slice so (Dg.dg 65536 q).length sc) (.int .i64 (e + (16 * (k : Int) + (j : Int))))
            have b8 := below_set3 b03 (show w.heap.size ≤ w.heap.size + 1 by omega) (.bool ts) (.slice so (Dg.dg 65536 q).length sc) (.int .i64 (e + (16 * (k : Int) + (j : Int))))
            refine bodyPost_ret (v := .agg #[.bool ts, .slice so (Dg.dg 65536 q).length sc, .int .i64 (e + (16 * (k : Int) + (j : Int)))]) (by simp [results, Tryz.results36, go_sem, g0, g1, g2]) rfl ?_
            show RDResF w (bare ⟨ts, n, e⟩) _ _
            rw [HB.out]
            exact ⟨_, rfl, r7, HF.out, b8⟩

theorem bared_any (v : Value) (t : Trip) (w : World) (hv : Rv w v t) (hL : (Dg.dg 65536 t.n).length ≤ 100000) (he1 : -1000000 ≤ t.e) (he2 : t.e ≤ 1000000) :
    Calls Tryz.prog 36 #[v] w (RDRes w (bare t)) :=
  (bared_far v t w hv hL he1 he2).mono fun _ _ h => h.near
end Go.Proofs.YtmjhlflemfkflaaGreatDoor
/-
  The reference's numbers with a point: OfDyad, ToDyad, dyadIs; the laws DyadBares, DyadScales.
-/
namespace Go.Proofs.YtmjhlflemfkflaaGreatDoor
open Go.RowKit

theorem dg16_len (n L : Nat) (h : (Dg.dg 4294967296 n).length ≤ L) : (Dg.dg 65536 n).length ≤ 2 * L := by
  apply Dg.dg_len_le 65536 _ _ (by omega)
  have h1 := Dg.vl_lt 4294967296 (Dg.dg 4294967296 n) (Dg.small_dg _ _ (by omega))
  rw [Dg.vl_dg _ _ (by omega)] at h1
  have h2 : 4294967296 ^ (Dg.dg 4294967296 n).length ≤ 4294967296 ^ L := Nat.pow_le_pow_right (by omega) h
  rw [pow_two]
  omega

set_option maxRecDepth 100000 in
set_option maxHeartbeats 800000 in
theorem ofDyad_far (s : Bool) (ao : Option Addr) (ca : Nat) (xs : List Nat) (e : Int) (w : World) (hr : Rd w .u32 (.slice ao xs.length ca) xs) (sa : Dg.Small 4294967296 xs) (hL : xs.length ≤ 20000) (he1 : -1000000 ≤ e) (he2 : e ≤ 1000000) :
    Calls Tryz.prog 18 #[.agg #[.bool s, .slice ao xs.length ca, .int .i64 e]] w (RDResF w (bare ⟨s, Dg.vl 4294967296 xs, e⟩)) := by
  have HO : Hid (∀ w1, Below w.heap.size w w1 → Calls Tryz.prog 46 #[.slice ao xs.length ca] w1 (RNum w1 (Dg.vl 4294967296 xs))) := fun w1 b1 => of_any _ xs w1 (hr.later b1) sa (by omega)
  have hl16 : (Dg.dg 65536 (Dg.vl 4294967296 xs)).length ≤ 100000 := by have := len16 sa; omega
  obtain ⟨n, hn⟩ : ∃ n, Dg.vl 4294967296 xs = n := ⟨_, rfl⟩
  rw [hn] at HO hl16 ⊢
  have HB : Hid (∀ v w1, Rv w1 v ⟨s, n, e⟩ → Calls Tryz.prog 36 #[v] w1 (RDResF w1 (bare ⟨s, n, e⟩))) := fun v w1 hv => bared_far v _ w1 hv hl16 he1 he2
  obtain ⟨⟨bs, bn, be⟩, hbt⟩ : ∃ bt, bare ⟨s, n, e⟩ = bt := ⟨_, rfl⟩
  rw [hbt] at HB ⊢
  clear hn hbt hr sa hL
  have bA := below_trans (below_alloc w (.cells #[.bool s, .slice ao xs.length ca, .int .i64 e] 25)) (below_alloc _ (.cells #[.bool false, .slice none 0 0, .int .i64 0] 34))
  have l1 := (loc_new w (.bool s) (.slice ao xs.length ca) (.int .i64 e) 25).later (below_alloc _ (.cells #[.bool false, .slice none 0 0, .int .i64 0] 34))
  have l2 := loc_new (w.alloc (.cells #[.bool s, .slice ao xs.length ca, .int .i64 e] 25)) (.bool false) (.slice none 0 0) (.int .i64 0) 34
  have z2 := zb_new (w.alloc (.cells #[.bool s, .slice ao xs.length ca, .int .i64 e] 25)) 34
  rw [World.size_alloc] at l2 z2
  obtain ⟨W, hW⟩ : ∃ W, ((w.alloc (.cells #[.bool s, .slice ao xs.length ca, .int .i64 e] 25)).alloc (.cells #[.bool false, .slice none 0 0, .int .i64 0] 34)) = W := ⟨_, rfl⟩
  rw [hW] at bA l1 l2 z2
  have bd : Below W.heap.size W W.drew := (Below.refl _ _).drew
  have l1 := l1.later bd
  have l2 := l2.later bd
  have z2 := z2.later bd
  have b02 := below_trans bA bd
  rw [← hW] at l1 l2 z2 b02
  clear bA bd hW
  obtain ⟨-, ⟨c0, c1, c2⟩, -⟩ := id l1
  have ne3 : w.heap.size + 1 ≠ w.heap.size := by omega
  go_enter Tryz.func18, Tryz.ntmps18
  go_wp2_with fail
  go_region_held3 (fun wq => wq.cell? ⟨w.heap.size, 0, none⟩ = some (.bool s) ∧ wq.cell? ⟨w.heap.size, 1, none⟩ = some (.slice ao xs.length ca) ∧ wq.cell? ⟨w.heap.size, 2, none⟩ = some (.int .i64 e)) (go_keep) (first
    | (go_at_call 46; refine (HO.out _ b02).mono ?_; rintro z w3 ⟨vs, rfl, r3, b3⟩; have l13 := l1.later b3; have l23 := l2.later b3; have z23 := z2.later b3; have b03 := below_trans b02 b3; obtain ⟨-, ⟨p0, p1, p2⟩, -⟩ := id l13; obtain ⟨so0, sc0, hv0⟩ := r3.shape; subst hv0)
    | (go_at_call 36; refine (HB.out _ w3 ⟨_, rfl, r3⟩).mono ?_; rintro z w4 ⟨vt, rfl, r4, hF4, b4⟩; have l14 := l13.later b4; have l24 := l23.later b4; have z24 := z23.later b4; have b04 := below_trans b03 b4; obtain ⟨so, sc, hvs⟩ := r4.shape; subst hvs; have HF : Hid (Far w.heap.size (.slice so (Dg.dg 65536 bn).length sc)) := hF4.mono b03.size; clear hF4; obtain ⟨-, ⟨q0, q1, q2⟩, -⟩ := id l14; obtain ⟨hl3, ⟨d0, d1, d2⟩, f0, f1, f2⟩ := id l24))
  all_goals go_wp2
  obtain ⟨-, ⟨g0, g1, g2⟩, -⟩ := loc_set l24 (.bool bs) (.slice so (Dg.dg 65536 bn).length sc) (.int .i64 be)
  have r7 := z24.rd r4 (Dg.norm_dg _ _ (by omega)) (.bool bs) (.slice so (Dg.dg 65536 bn).length sc) (.int .i64 be)
  have b8 := below_set3 b04 (show w.heap.size ≤ w.heap.size + 1 by omega) (.bool bs) (.slice so (Dg.dg 65536 bn).length sc) (.int .i64 be)
  refine bodyPost_ret (v := .agg #[.bool bs, .slice so (Dg.dg 65536 bn).length sc, .int .i64 be]) (by simp [results, Tryz.results18, go_sem, g0, g1, g2]) rfl ?_
  exact ⟨_, rfl, r7, HF.out, b8⟩

theorem ofDyad_any (s : Bool) (ao : Option Addr) (ca : Nat) (xs : List Nat) (e : Int) (w : World) (hr : Rd w .u32 (.slice ao xs.length ca) xs) (sa : Dg.Small 4294967296 xs) (hL : xs.length ≤ 20000) (he1 : -1000000 ≤ e) (he2 : e ≤ 1000000) :
    Calls Tryz.prog 18 #[.agg #[.bool s, .slice ao xs.length ca, .int .i64 e]] w (RDRes w (bare ⟨s, Dg.vl 4294967296 xs, e⟩)) :=
  (ofDyad_far s ao ca xs e w hr sa hL he1 he2).mono fun _ _ h => h.near

/-- What ToDyad makes of a number. -/
def toT (t : Trip) : Trip × Int :=
  if 1200 < (Dg.dg 4294967296 t.n).length then (⟨false, 0, 0⟩, 2) else if t.e < -20000 ∨ 20000 < t.e then (⟨false, 0, 0⟩, 3) else (t, 0)

theorem toT_bare (t : Trip) : toT (bare t) = shortT t := rfl

def RDAns (w : World) (r : Trip × Int) (e : Ending) (w' : World) : Prop :=
  ∃ s, e = .returned (.tuple #[.agg #[.bool r.1.s, s, .int .i64 r.1.e], .int .i64 r.2]) ∧ Rd w' .u32 s (Dg.dg 4294967296 r.1.n) ∧ Below w.heap.size w w'

set_option maxRecDepth 100000 in
set_option maxHeartbeats 1600000 in
theorem toDyad_any (v : Value) (t : Trip) (w : World) (hv : Rv w v t) (hL : (Dg.dg 65536 t.n).length ≤ 100000) :
    Calls Tryz.prog 74 #[v] w (RDAns w (toT t)) := by
  obtain ⟨s0, rfl, hr⟩ := hv
  obtain ⟨ao, ca, rfl⟩ := hr.shape
  obtain ⟨ts, n, e⟩ := t
  simp only at hr hL ⊢
  have HTO : Hid (∀ w1, Below w.heap.size w w1 → Calls Tryz.prog 111 #[.slice ao (Dg.dg 65536 n).length ca] w1 (Num w1 n)) := fun w1 b1 => by
    have := to_any _ _ w1 (hr.later b1) (Dg.small_dg _ _ (by omega)) (Dg.norm_dg _ _ (by omega)) (by omega)
    rwa [Dg.vl_dg _ _ (by omega)] at this
  obtain ⟨m, hm⟩ : ∃ m, (Dg.dg 65536 n).length = m := ⟨_, rfl⟩
  rw [hm] at HTO ⊢
  unfold toT
  simp only
  clear hm hr hL
  have bA := below_trans (below_alloc w (.cells #[.bool ts, .slice ao m ca, .int .i64 e] 34)) (below_alloc _ (.cells #[.bool false, .slice none 0 0, .int .i64 0] 25))
  have l1 := (loc_new w (.bool ts) (.slice ao m ca) (.int .i64 e) 34).later (below_alloc _ (.cells #[.bool false, .slice none 0 0, .int .i64 0] 25))
  have l2 := loc_new (w.alloc (.cells #[.bool ts, .slice ao m ca, .int .i64 e] 34)) (.bool false) (.slice none 0 0) (.int .i64 0) 25
  rw [World.size_alloc] at l2
  by_cases h1 : 1200 < (Dg.dg 4294967296 n).length
  · rw [if_pos h1]
    go_enter Tryz.func74, Tryz.ntmps74
    go_wp2_with fail
    refine (HTO.out _ bA).mono ?_
    rintro z w1 ⟨vs, rfl, own1, b1⟩
    have l1 := l1.later b1
    have l2 := l2.later b1
    have b01 := below_trans bA b1
    rw [World.size_alloc, World.size_alloc] at own1
    obtain ⟨so, sc, hs⟩ := own1.rd.shape
    subst hs
    obtain ⟨hl1, ⟨c0, c1, c2⟩, f0, f1, f2⟩ := id l1
    obtain ⟨hl2, ⟨d0, d1, d2⟩, k0, k1, k2⟩ := id l2
    clear bA b1 HTO
    go_wp2
    obtain ⟨-, ⟨g0, g1, g2⟩, -⟩ := loc_set l2 (.bool false) (.slice none 0 0) (.int .i64 0)
    have b2 := below_set3 b01 (show w.heap.size ≤ w.heap.size + 1 by omega) (.bool false) (.slice none 0 0) (.int .i64 0)
    refine bodyPost_ret (v := .tuple #[.agg #[(.bool false), (.slice none 0 0), (.int .i64 0)], .int .i64 2]) (by simp [results, Tryz.results74, go_sem, g0, g1, g2]) rfl ?_
    exact ⟨_, rfl, rd_nil _ _, b2⟩
  · rw [if_neg h1]
    by_cases h2 : e < -20000
    · rw [if_pos (Or.inl h2)]
      go_enter Tryz.func74, Tryz.ntmps74
      go_wp2_with fail
      refine (HTO.out _ bA).mono ?_
      rintro z w1 ⟨vs, rfl, own1, b1⟩
      have l1 := l1.later b1
      have l2 := l2.later b1
      have b01 := below_trans bA b1
      rw [World.size_alloc, World.size_alloc] at own1
      obtain ⟨so, sc, hs⟩ := own1.rd.shape
      subst hs
      obtain ⟨hl1, ⟨c0, c1, c2⟩, f0, f1, f2⟩ := id l1
      obtain ⟨hl2, ⟨d0, d1, d2⟩, k0, k1, k2⟩ := id l2
      clear bA b1 HTO
      go_wp2
      obtain ⟨-, ⟨g0, g1, g2⟩, -⟩ := loc_set l2 (.bool false) (.slice none 0 0) (.int .i64 0)
      have b2 := below_set3 b01 (show w.heap.size ≤ w.heap.size + 1 by omega) (.bool false) (.slice none 0 0) (.int .i64 0)
      refine bodyPost_ret (v := .tuple #[.agg #[(.bool false), (.slice none 0 0), (.int .i64 0)], .int .i64 3]) (by simp [results, Tryz.results74, go_sem, g0, g1, g2]) rfl ?_
      exact ⟨_, rfl, rd_nil _ _, b2⟩
    · by_cases h3 : 20000 < e
      · rw [if_pos (Or.inr h3)]
        go_enter Tryz.func74, Tryz.ntmps74
        go_wp2_with fail
        refine (HTO.out _ bA).mono ?_
        rintro z w1 ⟨vs, rfl, own1, b1⟩
        have l1 := l1.later b1
        have l2 := l2.later b1
        have b01 := below_trans bA b1
        rw [World.size_alloc, World.size_alloc] at own1
        obtain ⟨so, sc, hs⟩ := own1.rd.shape
        subst hs
        obtain ⟨hl1, ⟨c0, c1, c2⟩, f0, f1, f2⟩ := id l1
        obtain ⟨hl2, ⟨d0, d1, d2⟩, k0, k1, k2⟩ := id l2
        clear bA b1 HTO
        go_wp2
        obtain ⟨-, ⟨g0, g1, g2⟩, -⟩ := loc_set l2 (.bool false) (.slice none 0 0) (.int .i64 0)
        have b2 := below_set3 b01 (show w.heap.size ≤ w.heap.size + 1 by omega) (.bool false) (.slice none 0 0) (.int .i64 0)
        refine bodyPost_ret (v := .tuple #[.agg #[(.bool false), (.slice none 0 0), (.int .i64 0)], .int .i64 3]) (by simp [results, Tryz.results74, go_sem, g0, g1, g2]) rfl ?_
        exact ⟨_, rfl, rd_nil _ _, b2⟩
      · rw [if_neg (by omega)]
        go_enter Tryz.func74, Tryz.ntmps74
        go_wp2_with fail
        refine (HTO.out _ bA).mono ?_
        rintro z w1 ⟨vs, rfl, own1, b1⟩
        have l1 := l1.later b1
        have l2 := l2.later b1
        have b01 := below_trans bA b1
        rw [World.size_alloc, World.size_alloc] at own1
        obtain ⟨so, sc, hs⟩ := own1.rd.shape
        subst hs
        obtain ⟨hl1, ⟨c0, c1, c2⟩, f0, f1, f2⟩ := id l1
        obtain ⟨hl2, ⟨d0, d1, d2⟩, k0, k1, k2⟩ := id l2
        clear bA b1 HTO
        go_wp2
        obtain ⟨-, ⟨g0, g1, g2⟩, -⟩ := loc_set l2 (.bool ts) (.slice so (Dg.dg 4294967296 n).length sc) (.int .i64 e)
        have b2 := below_set3 b01 (show w.heap.size ≤ w.heap.size + 1 by omega) (.bool ts) (.slice so (Dg.dg 4294967296 n).length sc) (.int .i64 e)
        refine bodyPost_ret (v := .tuple #[.agg #[(.bool ts), (.slice so (Dg.dg 4294967296 n).length sc), (.int .i64 e)], .int .i64 0]) (by simp [results, Tryz.results74, go_sem, g0, g1, g2]) rfl ?_
        exact ⟨_, rfl, (own1.apart3 (b := w.heap.size + 1) (by omega) (.bool ts) (.slice so (Dg.dg 4294967296 n).length sc) (.int .i64 e)).rd, b2⟩
end Go.Proofs.YtmjhlflemfkflaaGreatDoor
/-
  Contracts of dyad.Bare and of dyadIs; the law DyadBares.
-/
namespace Go.Proofs.YtmjhlflemfkflaaGreatDoor
open Go.RowKit

set_option maxRecDepth 100000 in
set_option maxHeartbeats 1600000 in
theorem dyBare_any (s : Bool) (ao : Option Addr) (ca : Nat) (xs : List Nat) (e : Int) (w : World) (hr : Rd w .u32 (.slice ao xs.length ca) xs) (sa : Dg.Small 4294967296 xs) (hT : Tab w) :
    Calls Tryz.prog 17 #[.agg #[.bool s, .slice ao xs.length ca, .int .i64 e]] w (DAns w (dbothR (dchk xs e) ⟨s, Dg.vl 4294967296 xs, e⟩)) := by
  have bA := below_trans (below_alloc w (.cells #[.bool s, .slice ao xs.length ca, .int .i64 e] 25)) (below_alloc _ (.cells #[.bool false, .slice none 0 0, .int .i64 0] 25))
  have l1 := (loc_new w (.bool s) (.slice ao xs.length ca) (.int .i64 e) 25).later (below_alloc _ (.cells #[.bool false, .slice none 0 0, .int .i64 0] 25))
  have l2 := loc_new (w.alloc (.cells #[.bool s, .slice ao xs.length ca, .int .i64 e] 25)) (.bool false) (.slice none 0 0) (.int .i64 0) 25
  rw [World.size_alloc] at l2
  obtain ⟨W, hW⟩ : ∃ W, ((w.alloc (.cells #[.bool s, .slice ao xs.length ca, .int .i64 e] 25)).alloc (.cells #[.bool false, .slice none 0 0, .int .i64 0] 25)) = W := ⟨_, rfl⟩
  have sW : W.heap.size = w.heap.size + 1 + 1 := by rw [← hW]; simp [World.size_alloc]
  rw [hW] at bA l1 l2
  have bX := below_alloc W (.cells #[.bool s, .slice ao xs.length ca, .int .i64 e] 25)
  have b01 := below_trans bA bX
  have l1 := l1.later bX
  have l2 := l2.later bX
  have hw := dwrong1_any W.heap.size s ao ca xs e (W.alloc (.cells #[.bool s, .slice ao xs.length ca, .int .i64 e] 25))
    (by rw [World.cell?_alloc_at _ _ _ _ rfl]; rfl) (by rw [World.cell?_alloc_at _ _ _ _ rfl]; rfl) (by rw [World.cell?_alloc_at _ _ _ _ rfl]; rfl) (hr.later b01)
  rw [sW] at hw
  rw [← hW] at hw l1 l2 b01
  have HS : Hid (dchk xs e = 0 → ∀ w1, Below w.heap.size w w1 → Calls Tryz.prog 45 #[.agg #[.bool s, .slice ao xs.length ca, .int .i64 e]] w1 (DAns w1 (shortT ⟨s, Dg.vl 4294967296 xs, e⟩))) := fun h w1 b1 => by
    obtain ⟨c1, e1, e2⟩ := dchk_zero h
    have z1 := chk_zero c1
    have x1 : (Dg.dg 4294967296 (Dg.vl 4294967296 xs)).length ≤ 1200 := by rw [← Dg.eq_dg 4294967296 (by omega) xs _ sa z1.1 rfl]; exact z1.2
    exact dshort_any _ _ w1 (dv_of (hr.later b1) sa z1.1) (by simp only; omega) ⟨by simp only; omega, by simp only; omega⟩ (hT.later b1) (by have := tz_fits (Dg.vl 4294967296 xs) 1200 x1; simp only; omega)
  unfold dbothR
  obtain ⟨c, hc⟩ : ∃ c, dchk xs e = c := ⟨_, rfl⟩
  rw [hc] at hw HS ⊢
  clear hc bA bX sW hW hr sa hT
  by_cases h : c = 0
  · subst h
    rw [if_pos rfl]
    have HS2 : Hid (∀ w1, Below w.heap.size w w1 → Calls Tryz.prog 45 #[.agg #[.bool s, .slice ao xs.length ca, .int .i64 e]] w1 (DAns w1 (shortT ⟨s, Dg.vl 4294967296 xs, e⟩))) := HS.out rfl
    obtain ⟨⟨⟨rs, rn, re⟩, rc⟩, hrr⟩ : ∃ r, shortT ⟨s, Dg.vl 4294967296 xs, e⟩ = r := ⟨_, rfl⟩
    rw [hrr] at HS2 ⊢
    clear HS
    clear hrr
    go_enter Tryz.func17, Tryz.ntmps17
    go_wp2_with fail
    refine hw.mono ?_
    rintro z w1 ⟨rfl, b1⟩
    have l1 := l1.later b1
    have l2 := l2.later b1
    have b01 := below_trans b01 b1
    obtain ⟨-, ⟨ca0, ca1, ca2⟩, -⟩ := id l1
    clear hw b1
    go_wp2_with fail
    refine (of_dy s ao xs.length ca e _).mono ?_
    rintro z w3 ⟨rfl, b3⟩
    have hlt := (l2.later b3).1
    have l23 := l2.later b3
    have b03 := below_trans b01 b3
    go_wp2_with fail
    refine (HS2.out w3 b03).mono ?_
    rintro z w6 ⟨vr, rfl, o6, b6⟩
    have lc6 := l23.later b6
    have b06 := below_trans b03 b6
    obtain ⟨so, sc, hvr⟩ := o6.rd.shape
    subst hvr
    obtain ⟨hl6, ⟨d0, d1, d2⟩, f0, f1, f2⟩ := id lc6
    go_wp2
    obtain ⟨-, ⟨g0, g1, g2⟩, -⟩ := loc_set lc6 (.bool rs) (.slice so (Dg.dg 4294967296 rn).length sc) (.int .i64 re)
    have o7 := o6.apart3 (b := w.heap.size + 1) hlt (.bool rs) (.slice so (Dg.dg 4294967296 rn).length sc) (.int .i64 re)
    have b8 := below_set3 b06 (show w.heap.size ≤ w.heap.size + 1 by omega) (.bool rs) (.slice so (Dg.dg 4294967296 rn).length sc) (.int .i64 re)
    refine bodyPost_ret (v := .tuple #[.agg #[.bool rs, .slice so (Dg.dg 4294967296 rn).length sc, .int .i64 re], .int .i64 rc]) (by simp [results, Tryz.results17, go_sem, g0, g1, g2]) rfl ?_
    exact ⟨_, rfl, o7.lower b03.size, b8⟩
  · rw [if_neg h]
    go_enter Tryz.func17, Tryz.ntmps17
    go_wp2_with fail
    refine hw.mono ?_
    rintro z w1 ⟨rfl, b1⟩
    have l2 := l2.later b1
    have b01 := below_trans b01 b1
    obtain ⟨hl6, ⟨d0, d1, d2⟩, f0, f1, f2⟩ := id l2
    clear hw b1 HS
    go_wp2
    obtain ⟨-, ⟨g0, g1, g2⟩, -⟩ := loc_set l2 (.bool false) (.slice none 0 0) (.int .i64 0)
    have b8 := below_set3 b01 (show w.heap.size ≤ w.heap.size + 1 by omega) (.bool false) (.slice none 0 0) (.int .i64 0)
    refine bodyPost_ret (v := .tuple #[.agg #[.bool false, .slice none 0 0, .int .i64 0], .int .i64 c]) (by simp [results, Tryz.results17, go_sem, g0, g1, g2]) rfl ?_
    exact ⟨_, rfl, own_nil _ _ _ _, b8⟩

theorem toT_err {t : Trip} {qs : Bool} {qn : Nat} {qe qc : Int} (h : toT t = (⟨qs, qn, qe⟩, qc)) (hc : ¬qc = 0) : qs = false ∧ qn = 0 ∧ qe = 0 := by
  unfold toT at h
  by_cases h1 : 1200 < (Dg.dg 4294967296 t.n).length
  · rw [if_pos h1] at h
    simp only [Prod.mk.injEq, Trip.mk.injEq] at h
    exact ⟨h.1.1.symm, h.1.2.1.symm, h.1.2.2.symm⟩
  · rw [if_neg h1] at h
    by_cases h2 : t.e < -20000 ∨ 20000 < t.e
    · rw [if_pos h2] at h
      simp only [Prod.mk.injEq, Trip.mk.injEq] at h
      exact ⟨h.1.1.symm, h.1.2.1.symm, h.1.2.2.symm⟩
    · rw [if_neg h2] at h
      simp only [Prod.mk.injEq] at h
      exact absurd h.2.symm hc

theorem rd_empty {w w' : World} {k : IntKind} {so : Option Addr} {sc : Nat} (h : Rd w k (.slice so 0 sc) []) : Rd w' k (.slice so 0 sc) [] := by
  obtain ⟨ao, ca, hv, h1, h2, _⟩ := h
  exact ⟨ao, ca, hv, h1, h2, fun h => by simp at h⟩

/-- What must come: the number, or what is wrong. -/
def wantR (c : Int) (t : Trip) : Trip × Int := if c = 0 then toT t else (⟨false, 0, 0⟩, c)

end Go.Proofs.YtmjhlflemfkflaaGreatDoor
/-
  The law DyadBares.
-/
namespace Go.Proofs.YtmjhlflemfkflaaGreatDoor
open Go.RowKit

theorem want_bare {c : Int} (t : Trip) : wantR c (bare t) = dbothR c t := by
  unfold wantR dbothR
  rw [toT_bare]

theorem want_zero {c : Int} (h : ¬c = 0) (t u : Trip) : wantR c u = dbothR c t := by
  unfold wantR dbothR
  rw [if_neg h, if_neg h]

end Go.Proofs.YtmjhlflemfkflaaGreatDoor
/-
  The reference's DTimes, TwoDyads.
-/
namespace Go.Proofs.YtmjhlflemfkflaaGreatDoor
open Go.RowKit

theorem locals3z (w : World) (a0 a1 a2 b0 b1 b2 : Value) (ta tb tc : TypeId) :
    ZB (((w.alloc (.cells #[a0, a1, a2] ta)).alloc (.cells #[b0, b1, b2] tb)).alloc (.cells #[.bool false, .slice none 0 0, .int .i64 0] tc)) (w.heap.size + 1 + 1) := by
  have := zb_new ((w.alloc (.cells #[a0, a1, a2] ta)).alloc (.cells #[b0, b1, b2] tb)) tc
  rwa [World.size_alloc, World.size_alloc] at this

theorem mul_len16 (x y L M : Nat) (hx : (Dg.dg 65536 x).length ≤ L) (hy : (Dg.dg 65536 y).length ≤ M) : (Dg.dg 65536 (x * y)).length ≤ L + M := by
  apply Dg.dg_len_le 65536 _ _ (by omega)
  have h1 := Dg.vl_lt 65536 (Dg.dg 65536 x) (Dg.small_dg _ _ (by omega))
  have h2 := Dg.vl_lt 65536 (Dg.dg 65536 y) (Dg.small_dg _ _ (by omega))
  rw [Dg.vl_dg _ _ (by omega)] at h1 h2
  have h3 : 65536 ^ (Dg.dg 65536 x).length ≤ 65536 ^ L := Nat.pow_le_pow_right (by omega) hx
  have h4 : 65536 ^ (Dg.dg 65536 y).length ≤ 65536 ^ M := Nat.pow_le_pow_right (by omega) hy
  rw [Nat.pow_add]
  exact Nat.mul_lt_mul'' (by omega) (by omega)

set_option maxRecDepth 100000 in
theorem twoDy_any (s : Bool) (ao : Option Addr) (ca : Nat) (xs : List Nat) (e : Int) (t : Bool) (bo : Option Addr) (cb : Nat) (ys : List Nat) (f : Int) (w : World) (hr : Rd w .u32 (.slice ao xs.length ca) xs) (hq : Rd w .u32 (.slice bo ys.length cb) ys) :
    Calls Tryz.prog 63 #[.agg #[.bool s, .slice ao xs.length ca, .int .i64 e], .agg #[.bool t, .slice bo ys.length cb, .int .i64 f]] w fun z w' => z = .returned (.int .i64 (dchk2 xs e ys f)) ∧ Below w.heap.size w w' := by
  have bA := below_trans (below_alloc w (.cells #[.bool s, .slice ao xs.length ca, .int .i64 e] 25)) (below_alloc _ (.cells #[.bool t, .slice bo ys.length cb, .int .i64 f] 25))
  have l1 := (loc_new w (.bool s) (.slice ao xs.length ca) (.int .i64 e) 25).later (below_alloc _ (.cells #[.bool t, .slice bo ys.length cb, .int .i64 f] 25))
  have l2 := loc_new (w.alloc (.cells #[.bool s, .slice ao xs.length ca, .int .i64 e] 25)) (.bool t) (.slice bo ys.length cb) (.int .i64 f) 25
  rw [World.size_alloc] at l2
  have h1 := refcheckDy_any s ao ca xs e _ (hr.later bA)
  have H2 : Hid (∀ w1, Below w.heap.size w w1 → Calls Tryz.prog 108 #[.agg #[.bool t, .slice bo ys.length cb, .int .i64 f]] w1 fun z w' => z = .returned (.int .i64 (dchk ys f)) ∧ Below w1.heap.size w1 w') := fun w1 b1 => refcheckDy_any t bo cb ys f w1 (hq.later b1)
  unfold dchk2
  obtain ⟨c, hc⟩ : ∃ c, dchk xs e = c := ⟨_, rfl⟩
  obtain ⟨d, hd⟩ : ∃ d, dchk ys f = d := ⟨_, rfl⟩
  rw [hc] at h1 ⊢
  rw [hd] at H2 ⊢
  clear hc hd hr hq
  by_cases h : c = 0
  · subst h
    rw [if_pos rfl]
    go_enter Tryz.func63, Tryz.ntmps63
    go_wp2_with fail
    refine h1.mono ?_
    rintro z w1 ⟨rfl, b1⟩
    have l2 := l2.later b1
    have b01 := below_trans bA b1
    obtain ⟨-, ⟨c0, c1, c2⟩, -⟩ := id l2
    clear h1 bA b1
    go_wp2_with fail
    refine (H2.out w1 b01).mono ?_
    rintro z w2 ⟨rfl, b2⟩
    have b02 := below_trans b01 b2
    go_wp2
    go_ret
    exact ⟨rfl, b02⟩
  · rw [if_neg h]
    have h3 : (c == 0) = false := by simp [h]
    go_enter Tryz.func63, Tryz.ntmps63
    go_wp2_with fail
    refine h1.mono ?_
    rintro z w1 ⟨rfl, b1⟩
    have b01 := below_trans bA b1
    clear h1
    go_wp2
    go_ret
    exact ⟨rfl, b01⟩

end Go.Proofs.YtmjhlflemfkflaaGreatDoor

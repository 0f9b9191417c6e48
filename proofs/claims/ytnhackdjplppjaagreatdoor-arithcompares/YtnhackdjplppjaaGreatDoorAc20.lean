/-
  Texts laid together: Dr1, Dy5, Dy6, Dy7, Dr2, Dr4, Dr3a.
-/
import Derived.Test.YtnhackdjplppjaaGreatDoorAc12
set_option maxRecDepth 100000
namespace Go.Proofs.YtnhackdjplppjaaGreatDoor
open Go.RowKit
def Rv (w : World) (v : Value) (t : Trip) : Prop := ∃ s, v = .agg #[.bool t.s, s, .int .i64 t.e] ∧ Rd w .i64 s (Dg.dg 65536 t.n)
def RDRes (w : World) (t : Trip) (e : Ending) (w' : World) : Prop := ∃ s, e = .returned (.agg #[.bool t.s, s, .int .i64 t.e]) ∧ Rd w' .i64 s (Dg.dg 65536 t.n) ∧ Below w.heap.size w w'
def RDResF (w : World) (t : Trip) (e : Ending) (w' : World) : Prop := ∃ s, e = .returned (.agg #[.bool t.s, s, .int .i64 t.e]) ∧ Rd w' .i64 s (Dg.dg 65536 t.n) ∧ Far w.heap.size s ∧ Below w.heap.size w w'
theorem RDResF.near {w : World} {t : Trip} {e : Ending} {w' : World} (h : RDResF w t e w') : RDRes w t e w' := by
 obtain ⟨s, h1, h2, -, h3⟩ := h
 exact ⟨s, h1, h2, h3⟩
theorem Rv.later {w w' : World} {v : Value} {t : Trip} (h : Rv w v t) (hb : Below w.heap.size w w') : Rv w' v t := by
 obtain ⟨s, hv, hr⟩ := h
 exact ⟨s, hv, hr.later hb⟩
def ZB (w : World) (b : Nat) : Prop := b < w.heap.size ∧ ∃ ty, w.heap[b]? = some (.cells #[.bool false, .slice none 0 0, .int .i64 0] ty (0, 0))
theorem ZB.later {w w' : World} {b : Nat} (h : ZB w b) (hb : Below w.heap.size w w') : ZB w' b := by
 obtain ⟨hl, ty, hh⟩ := h
 exact ⟨Nat.lt_of_lt_of_le hl hb.size, ty, (hb.block b hl).trans hh⟩
theorem zb_new (w : World) (ty : TypeId) : ZB (w.alloc (.cells #[.bool false, .slice none 0 0, .int .i64 0] ty)) w.heap.size :=
 ⟨by simp [World.size_alloc], ty, heap_alloc_new _ _⟩
theorem ZB.rd {w : World} {b : Nat} {v : Value} {zs : List Nat} (h : ZB w b) (hr : Rd w .i64 v zs) (hn : Dg.Norm zs) (x0 x1 x2 : Value) :
  Rd (((w.setCell ⟨b, 0, none⟩ x0).setCell ⟨b, 1, none⟩ x1).setCell ⟨b, 2, none⟩ x2) .i64 v zs := by
 obtain ⟨hl, ty, hh⟩ := h
 obtain ⟨ao, cap, rfl, h1, h2, h3⟩ := hr
 refine ⟨ao, cap, rfl, h1, h2, fun hp => ?_⟩
 obtain ⟨c, off, rfl, hc⟩ := h3 hp
 refine ⟨c, off, rfl, fun i hi => ?_⟩
 have hne : c ≠ b := by
  intro e
  subst e
  have k1 := hc (zs.length - 1) (by omega)
  have hz := hn (List.length_pos_iff.1 hp)
  unfold World.cell? at k1
  simp only [hh] at k1
  obtain ⟨o, ho⟩ : ∃ o, off + (zs.length - 1) = o := ⟨_, rfl⟩
  rw [ho] at k1
  generalize zs.getD (zs.length - 1) 0 = d at *
  match o, k1 with
  | 0, k1 => simp at k1
  | 1, k1 => simp at k1
  | 2, k1 => simp at k1; omega
  | o + 3, k1 => simp at k1
 rw [World.cell?_setCell_other (h := by simp), World.cell?_setCell_other (h := by simp), World.cell?_setCell_other (h := by simp)]
 exact hc i hi
theorem tz_digit16 (l : List Nat) (k t m : Nat) (hk : k < l.length) (h : ∀ j, j < k → l.getD j 0 = 0) (hd : l.getD k 0 = 2 ^ t * (2 * m + 1)) (ht : t < 16) : tz (Dg.vl 65536 l) = 16 * k + t := by
 have h1 := Dg.vl_split 65536 l k hk
 have h0 : Dg.vl 65536 (l.take k) = 0 := Dg.vl_zeros 65536 (l.take k) (fun i => by
  by_cases hi : i < k
  ·have := h i hi
   simpa [List.getD_eq_getElem?_getD, List.getElem?_take, hi] using this
  ·simp [List.getD_eq_getElem?_getD, List.getElem?_take, hi])
 rw [h0, hd, Nat.zero_add] at h1
 obtain ⟨u, hu⟩ : ∃ u, Dg.vl 65536 (l.drop (k + 1)) = u := ⟨_, rfl⟩
 rw [hu] at h1
 have e32 : (65536 : Nat) = 2 ^ t * (2 * 2 ^ (15 - t)) := by
  have : (65536 : Nat) = 2 ^ (t + (1 + (15 - t))) := by rw [show t + (1 + (15 - t)) = 16 from by omega]
  rw [this, Nat.pow_add, Nat.pow_add, Nat.pow_one]
 have e1 : (2 : Nat) ^ (16 * k) = 65536 ^ k := by rw [Nat.pow_mul]
 refine tz_eq (m := m + 2 ^ (15 - t) * u) ?_
 rw [h1, Nat.pow_add, e1, Nat.mul_assoc]
 congr 1
 generalize 2 ^ (15 - t) = c at *
 have e2 : 65536 * u = 2 ^ t * (2 * (c * u)) := by rw [e32]; simp only [Nat.mul_assoc]
 rw [e2, ← Nat.mul_add]
 congr 1
 omega
set_option maxHeartbeats 1600000 in
theorem bared_far (v : Value) (t : Trip) (w : World) (hv : Rv w v t) (hL : (Dg.dg 65536 t.n).length ≤ 100000) (he1 : -1000000 ≤ t.e) (he2 : t.e ≤ 1000000) :
  Calls Tryz.prog 79 #[v] w (RDResF w (bare t)) := by
 obtain ⟨s0, rfl, hr⟩ := hv
 obtain ⟨ao, ca, rfl⟩ := hr.shape
 obtain ⟨ts, n, e⟩ := t
 simp only at hr hL he1 he2 ⊢
 by_cases hn : n = 0
 ·subst hn
  rw [show Dg.dg 65536 0 = [] from rfl] at hr ⊢
  rw [show bare ⟨ts, 0, e⟩ = ⟨false, 0, 0⟩ from by unfold bare; rfl]
  go_enter Tryz.func79, Tryz.ntmps79
  go_wp2
  go_returns
  exact ⟨_, rfl, rd_nil _ _, (fun a n c h => by cases h), ((Below.refl _ _).alloc (Nat.le_refl _) _).alloc (by simp [World.size_alloc]) _⟩
 ·have h0 : (((Dg.dg 65536 n).length : Int) == 0) = false := by simp [Dg.dg_nil_iff 65536 n (by omega)]; exact hn
  have hsm := Dg.small_dg 65536 n (by omega)
  have hnm := Dg.norm_dg 65536 n (by omega)
  have hvl := Dg.vl_dg 65536 n (by omega)
  have hne : Dg.dg 65536 n ≠ [] := by rw [Ne, Dg.dg_nil_iff 65536 n (by omega)]; exact hn
  obtain ⟨xs, hx⟩ : ∃ xs, Dg.dg 65536 n = xs := ⟨_, rfl⟩
  rw [hx] at hr hL h0 hsm hnm hvl hne ⊢
  have hlp : 0 < xs.length := List.length_pos_iff.2 hne
  have HNM : Hid (xs.getD (xs.length - 1) 0 ≠ 0) := hnm hne
  obtain ⟨-, -, hcb⟩ := rd_open hr
  obtain ⟨b, off, hao, hcell⟩ := hcb hlp
  subst hao
  have bA := below_trans (below_alloc w (.cells #[.bool ts, .slice (some ⟨b, off, none⟩) xs.length ca, .int .i64 e] 30)) (below_alloc _ (.cells #[.bool false, .slice none 0 0, .int .i64 0] 30))
  go_enter Tryz.func79, Tryz.ntmps79
  go_wp2
  go_loop [3] (fun nv => ∃ k : Nat, k < xs.length ∧ nv = .int .i64 ((16 * k : Nat) : Int) ∧ Hid (∀ j, j < k → xs.getD j 0 = 0)) (fun nv => xs.length - (intOf nv).toNat / 16)
  case atStart => exact ⟨0, hlp, rfl, fun j hj => absurd hj (Nat.not_lt_zero j)⟩
  case round =>
   obtain ⟨k, hk, rfl, hzk⟩ := hrel
   have hq : ((16 * k : Nat) : Int) / 16 = (k : Int) := by omega
   have hc := cell_later bA (hcell k hk)
   have hl := hsm k
   obtain ⟨x, hxx⟩ : ∃ x, xs.getD k 0 = x := ⟨_, rfl⟩
   rw [hxx] at hc hl
   have HX : Hid (xs.getD k 0 = x) := hxx
   clear hxx
   by_cases hx0 : x = 0
   ·subst hx0
    have hk1 : k + 1 < xs.length := by
     rcases Nat.lt_or_ge (k + 1) xs.length with h | h
     ·exact h
     ·exfalso
      have : k = xs.length - 1 := by omega
      exact HNM.out (by rw [← this]; exact HX.out)
    go_wp2
    go_round
    case rel => exact ⟨k + 1, hk1, by go_num, fun j hj => by
     by_cases e : j = k
     ·rw [e]; exact HX.out
     ·exact hzk.out j (by omega)⟩
    case measure => simp [intOf]; omega
   ·have h1 : ((x : Int) == 0) = false := by simp; exact hx0
    go_wp2
    have bd : Below (((w.alloc (.cells #[.bool ts, .slice (some ⟨b, off, none⟩) xs.length ca, .int .i64 e] 30)).alloc (.cells #[.bool false, .slice none 0 0, .int .i64 0] 30))).heap.size ((w.alloc (.cells #[.bool ts, .slice (some ⟨b, off, none⟩) xs.length ca, .int .i64 e] 30)).alloc (.cells #[.bool false, .slice none 0 0, .int .i64 0] 30)) ((w.alloc (.cells #[.bool ts, .slice (some ⟨b, off, none⟩) xs.length ca, .int .i64 e] 30)).alloc (.cells #[.bool false, .slice none 0 0, .int .i64 0] 30)).drew := (Below.refl _ _).drew
    have l1 := ((loc_new w (.bool ts) (.slice (some ⟨b, off, none⟩) xs.length ca) (.int .i64 e) 30).later (below_alloc _ (.cells #[.bool false, .slice none 0 0, .int .i64 0] 30))).later bd
    have l2 := (loc_new (w.alloc (.cells #[.bool ts, .slice (some ⟨b, off, none⟩) xs.length ca, .int .i64 e] 30)) (.bool false) (.slice none 0 0) (.int .i64 0) 30).later bd
    have z2 := (zb_new (w.alloc (.cells #[.bool ts, .slice (some ⟨b, off, none⟩) xs.length ca, .int .i64 e] 30)) 30).later bd
    rw [World.size_alloc] at l2 z2
    have b02 := below_trans bA bd
    clear bd
    go_loop [3, 4] (fun nv dv => ∃ j d : Nat, nv = .int .i64 (16 * (k : Int) + (j : Int)) ∧ dv = .int .i64 (d : Int) ∧ 0 < d ∧ d ≤ x ∧ Hid (x = 2 ^ j * d) ∧ j ≤ 16) (fun _ dv => (intOf dv).toNat)
    case atStart => exact ⟨0, x, by simp, rfl, by omega, Nat.le_refl _, by show x = 2 ^ 0 * x; simp, by omega⟩
    case round =>
     obtain ⟨j, d, rfl, rfl, hd0, hdx, hxd, hj⟩ := hrel
     by_cases hev : d % 2 = 0
     ·have e1 : ((d : Int) % 2 == 0) = true := by simp; omega
      have hj2 : j + 1 ≤ 16 := by
       rcases Nat.lt_or_ge j 16 with h | h
       ·exact h
       ·exfalso
        have h2 : 2 ^ 16 ≤ 2 ^ j := Nat.pow_le_pow_right (by omega) h
        have h3 : 2 ^ j * 1 ≤ 2 ^ j * d := Nat.mul_le_mul_left _ (by omega)
        rw [← hxd.out] at h3
        omega
      go_wp2
      go_round
      case rel => exact ⟨j + 1, d / 2, by go_num, by go_num, by omega, by omega, by
       show x = 2 ^ (j + 1) * (d / 2)
       rw [Nat.pow_succ, Nat.mul_assoc, show 2 * (d / 2) = d from by omega]
       exact hxd.out, hj2⟩
      case measure => simp [intOf]; omega
     ·have e1 : ((d : Int) % 2 == 0) = false := by simp; omega
      obtain ⟨m, hm⟩ : ∃ m, d = 2 * m + 1 := ⟨d / 2, by omega⟩
      have hj15 : j < 16 := by
       rcases Nat.lt_or_ge j 16 with h | h
       ·exact h
       ·exfalso
        have h2 : 2 ^ 16 ≤ 2 ^ j := Nat.pow_le_pow_right (by omega) h
        have h3 : 2 ^ j * 1 ≤ 2 ^ j * d := Nat.mul_le_mul_left _ (by omega)
        rw [← hxd.out] at h3
        omega
      have htz := tz_digit16 xs k j m hk hzk.out (by rw [HX.out, ← hm]; exact hxd.out) hj15
      rw [hvl] at htz
      have HB : Hid (bare ⟨ts, n, e⟩ = ⟨ts, n / 2 ^ (16 * k + j), e + (16 * (k : Int) + (j : Int))⟩) := by
       show bare ⟨ts, n, e⟩ = _
       unfold bare
       rw [if_neg hn]
       simp only [htz]
       rw [show ((16 * k + j : Nat) : Int) = 16 * (k : Int) + (j : Int) from by omega]
      have HD : Hid (∀ w1, Below w.heap.size w w1 → Calls Tryz.prog 133 #[.slice (some ⟨b, off, none⟩) xs.length ca, .int .i64 (16 * (k : Int) + (j : Int))] w1 (RNumF w1 (n / 2 ^ (16 * k + j)))) := fun w1 b1 => by
       have := down_far _ xs (16 * k + j) k j _ _ w1 (hr.later b1) hsm (by omega) rfl hj15 (by omega) rfl rfl
       rwa [hvl, show ((16 * k + j : Nat) : Int) = 16 * (k : Int) + (j : Int) from by omega] at this
      obtain ⟨q, hqq⟩ : ∃ q, n / 2 ^ (16 * k + j) = q := ⟨_, rfl⟩
      rw [hqq] at HB HD
      have e5 : IntKind.i64.wrap (e + (16 * (k : Int) + (j : Int))) = e + (16 * (k : Int) + (j : Int)) := IntWalk.i64_in _ ⟨by omega, by omega⟩
      obtain ⟨-, ⟨c0, c1, c2⟩, -⟩ := id l1
      have ne3 : w.heap.size + 1 ≠ w.heap.size := by omega
      clear hqq htz hm hxd hev
      go_wp2
      go_region_held3 (fun wq => wq.cell? ⟨w.heap.size, 0, none⟩ = some (.bool ts) ∧ wq.cell? ⟨w.heap.size, 1, none⟩ = some (.slice (some ⟨b, off, none⟩) xs.length ca) ∧ wq.cell? ⟨w.heap.size, 2, none⟩ = some (.int .i64 e)) (go_keep) (first
       | (go_at_call 133; refine (HD.out _ b02).mono ?_; rintro z w3 ⟨vs, rfl, r3, hF3, b3⟩; have l13 := l1.later b3; have l23 := l2.later b3; have z23 := z2.later b3; have b03 := below_trans b02 b3; obtain ⟨so, sc, hvs⟩ := r3.shape; subst hvs; have HF : Hid (Far w.heap.size (.slice so (Dg.dg 65536 q).length sc)) := hF3.mono b02.size; clear hF3; obtain ⟨-, ⟨p0, p1, p2⟩, -⟩ := id l13; obtain ⟨hl3, ⟨d0, d1, d2⟩, f0, f1, f2⟩ := id l23))
      all_goals go_wp2
      obtain ⟨-, ⟨g0, g1, g2⟩, -⟩ := loc_set l23 (.bool ts) (.slice so (Dg.dg 65536 q).length sc) (.int .i64 (e + (16 * (k : Int) + (j : Int))))
      have r7 := z23.rd r3 (Dg.norm_dg _ _ (by omega)) (.bool ts) (.slice so (Dg.dg 65536 q).length sc) (.int .i64 (e + (16 * (k : Int) + (j : Int))))
      have b8 := below_set3 b03 (show w.heap.size ≤ w.heap.size + 1 by omega) (.bool ts) (.slice so (Dg.dg 65536 q).length sc) (.int .i64 (e + (16 * (k : Int) + (j : Int))))
      refine bodyPost_ret (v := .agg #[.bool ts, .slice so (Dg.dg 65536 q).length sc, .int .i64 (e + (16 * (k : Int) + (j : Int)))]) (by simp [results, Tryz.results79, go_sem, g0, g1, g2]) rfl ?_
      show RDResF w (bare ⟨ts, n, e⟩) _ _
      rw [HB.out]
      exact ⟨_, rfl, r7, HF.out, b8⟩
end Go.Proofs.YtnhackdjplppjaaGreatDoor
namespace Go.Proofs.YtnhackdjplppjaaGreatDoor
open Go.RowKit
def dchk (xs : List Nat) (e : Int) : Int := if chk xs = 0 then (if e < -20000 ∨ 20000 < e then 3 else 0) else chk xs
theorem dcheck_any (s : Bool) (ao : Option Addr) (ca : Nat) (xs : List Nat) (e : Int) (w : World) (hr : Rd w .u32 (.slice ao xs.length ca) xs) :
  Calls Tryz.prog 162 #[.agg #[.bool s, .slice ao xs.length ca, .int .i64 e]] w fun z w' => z = .returned (.int .i64 (dchk xs e)) ∧ Below w.heap.size w w' := by
 have bA := below_alloc w (.cells #[.bool s, .slice ao xs.length ca, .int .i64 e] 82)
 have hk := check_any _ xs _ (hr.later bA)
 unfold dchk
 obtain ⟨c, hc⟩ : ∃ c, chk xs = c := ⟨_, rfl⟩
 rw [hc] at hk ⊢
 clear hc hr
 by_cases h : c = 0
 ·subst h
  rw [if_pos rfl]
  by_cases h1 : e < -20000
  ·rw [if_pos (Or.inl h1)]
   go_enter Tryz.func162, Tryz.ntmps162
   go_wp2_with fail
   refine hk.mono ?_
   rintro z w' ⟨rfl, rfl⟩
   clear hk
   go_wp2
   go_ret
   exact ⟨rfl, bA⟩
  ·by_cases h2 : 20000 < e
   ·rw [if_pos (Or.inr h2)]
    go_enter Tryz.func162, Tryz.ntmps162
    go_wp2_with fail
    refine hk.mono ?_
    rintro z w' ⟨rfl, rfl⟩
    clear hk
    go_wp2
    go_ret
    exact ⟨rfl, bA⟩
   ·rw [if_neg (by omega)]
    go_enter Tryz.func162, Tryz.ntmps162
    go_wp2_with fail
    refine hk.mono ?_
    rintro z w' ⟨rfl, rfl⟩
    clear hk
    go_wp2
    go_ret
    exact ⟨rfl, bA⟩
 ·rw [if_neg h]
  go_enter Tryz.func162, Tryz.ntmps162
  go_wp2_with fail
  refine hk.mono ?_
  rintro z w' ⟨rfl, rfl⟩
  clear hk
  go_wp2
  go_ret
  exact ⟨rfl, bA⟩
end Go.Proofs.YtnhackdjplppjaaGreatDoor
namespace Go.Proofs.YtnhackdjplppjaaGreatDoor
open Go.RowKit
theorem tz_fits (n L : Nat) (h : (Dg.dg 4294967296 n).length ≤ L) : tz n ≤ 32 * L := by
 by_cases h0 : n = 0
 ·subst h0; exact Nat.zero_le _
 ·obtain ⟨m, hm⟩ := tz_spec h0
  have h1 := Dg.vl_lt 4294967296 (Dg.dg 4294967296 n) (Dg.small_dg _ _ (by omega))
  rw [Dg.vl_dg _ _ (by omega)] at h1
  have h2 : 4294967296 ^ (Dg.dg 4294967296 n).length ≤ 4294967296 ^ L := Nat.pow_le_pow_right (by omega) h
  have h3 : (4294967296 : Nat) ^ L = 2 ^ (32 * L) := by rw [Nat.pow_mul]
  have h4 : 2 ^ tz n * 1 ≤ 2 ^ tz n * (2 * m + 1) := Nat.mul_le_mul_left _ (by omega)
  rw [← hm, Nat.mul_one] at h4
  have h5 : 2 ^ tz n < 2 ^ (32 * L) := by rw [← h3]; omega
  exact Nat.le_of_lt ((Nat.pow_lt_pow_iff_right (by omega)).1 h5)
def dbothR (c : Int) (t : Trip) : Trip × Int := if c = 0 then shortT t else (⟨false, 0, 0⟩, c)
theorem dchk_zero {xs : List Nat} {e : Int} (h : dchk xs e = 0) : chk xs = 0 ∧ -20000 ≤ e ∧ e ≤ 20000 := by
 unfold dchk at h
 by_cases h1 : chk xs = 0
 ·rw [if_pos h1] at h
  by_cases h2 : e < -20000 ∨ 20000 < e
  ·rw [if_pos h2] at h; omega
  ·exact ⟨h1, by omega, by omega⟩
 ·rw [if_neg h1] at h; exact absurd h h1
theorem locals3 (w : World) (a0 a1 a2 b0 b1 b2 c0 c1 c2 : Value) (ta tb tc : TypeId) :
  Loc (((w.alloc (.cells #[a0, a1, a2] ta)).alloc (.cells #[b0, b1, b2] tb)).alloc (.cells #[c0, c1, c2] tc)) w.heap.size a0 a1 a2 ∧
  Loc (((w.alloc (.cells #[a0, a1, a2] ta)).alloc (.cells #[b0, b1, b2] tb)).alloc (.cells #[c0, c1, c2] tc)) (w.heap.size + 1) b0 b1 b2 ∧
  Loc (((w.alloc (.cells #[a0, a1, a2] ta)).alloc (.cells #[b0, b1, b2] tb)).alloc (.cells #[c0, c1, c2] tc)) (w.heap.size + 1 + 1) c0 c1 c2 ∧
  Below w.heap.size w (((w.alloc (.cells #[a0, a1, a2] ta)).alloc (.cells #[b0, b1, b2] tb)).alloc (.cells #[c0, c1, c2] tc)) ∧
  (((w.alloc (.cells #[a0, a1, a2] ta)).alloc (.cells #[b0, b1, b2] tb)).alloc (.cells #[c0, c1, c2] tc)).heap.size = w.heap.size + 1 + 1 + 1 := by
 have la := loc_new w a0 a1 a2 ta
 have lb := loc_new (w.alloc (.cells #[a0, a1, a2] ta)) b0 b1 b2 tb
 have lc := loc_new ((w.alloc (.cells #[a0, a1, a2] ta)).alloc (.cells #[b0, b1, b2] tb)) c0 c1 c2 tc
 have bB := below_alloc (w.alloc (.cells #[a0, a1, a2] ta)) (.cells #[b0, b1, b2] tb)
 have bC := below_alloc ((w.alloc (.cells #[a0, a1, a2] ta)).alloc (.cells #[b0, b1, b2] tb)) (.cells #[c0, c1, c2] tc)
 refine ⟨(la.later bB).later bC, ?_, ?_, below_trans (below_trans (below_alloc w _) bB) bC, by simp [World.size_alloc]⟩
 ·have := lb.later bC
  rwa [World.size_alloc] at this
 ·rwa [World.size_alloc, World.size_alloc] at lc
end Go.Proofs.YtnhackdjplppjaaGreatDoor
namespace Go.Proofs.YtnhackdjplppjaaGreatDoor
open Go.RowKit
theorem dv_of {w : World} {s : Bool} {ao : Option Addr} {ca : Nat} {xs : List Nat} {e : Int} (hr : Rd w .u32 (.slice ao xs.length ca) xs) (sa : Dg.Small 4294967296 xs) (hn : Dg.Norm xs) :
  Dv w (.agg #[.bool s, .slice ao xs.length ca, .int .i64 e]) ⟨s, Dg.vl 4294967296 xs, e⟩ := by
 have h := Dg.eq_dg 4294967296 (by omega) xs _ sa hn rfl
 refine ⟨_, rfl, ?_⟩
 simp only
 rw [← h]
 exact hr
end Go.Proofs.YtnhackdjplppjaaGreatDoor
namespace Go.Proofs.YtnhackdjplppjaaGreatDoor
open Go.RowKit
theorem dg16_len (n L : Nat) (h : (Dg.dg 4294967296 n).length ≤ L) : (Dg.dg 65536 n).length ≤ 2 * L := by
 apply Dg.dg_len_le 65536 _ _ (by omega)
 have h1 := Dg.vl_lt 4294967296 (Dg.dg 4294967296 n) (Dg.small_dg _ _ (by omega))
 rw [Dg.vl_dg _ _ (by omega)] at h1
 have h2 : 4294967296 ^ (Dg.dg 4294967296 n).length ≤ 4294967296 ^ L := Nat.pow_le_pow_right (by omega) h
 rw [pow_two]
 omega
end Go.Proofs.YtnhackdjplppjaaGreatDoor
namespace Go.Proofs.YtnhackdjplppjaaGreatDoor
open Go.RowKit
theorem locals3z (w : World) (a0 a1 a2 b0 b1 b2 : Value) (ta tb tc : TypeId) :
  ZB (((w.alloc (.cells #[a0, a1, a2] ta)).alloc (.cells #[b0, b1, b2] tb)).alloc (.cells #[.bool false, .slice none 0 0, .int .i64 0] tc)) (w.heap.size + 1 + 1) := by
 have := zb_new ((w.alloc (.cells #[a0, a1, a2] ta)).alloc (.cells #[b0, b1, b2] tb)) tc
 rwa [World.size_alloc, World.size_alloc] at this
end Go.Proofs.YtnhackdjplppjaaGreatDoor
namespace Go.Proofs.YtnhackdjplppjaaGreatDoor
open Go.RowKit
theorem up_len16 (n k L j : Nat) (h : (Dg.dg 65536 n).length ≤ L) (hk : k ≤ 16 * j) : (Dg.dg 65536 (n * 2 ^ k)).length ≤ L + j := by
 apply Dg.dg_len_le 65536 _ _ (by omega)
 have h1 := Dg.vl_lt 65536 (Dg.dg 65536 n) (Dg.small_dg _ _ (by omega))
 rw [Dg.vl_dg _ _ (by omega)] at h1
 have h2 : 65536 ^ (Dg.dg 65536 n).length ≤ 65536 ^ L := Nat.pow_le_pow_right (by omega) h
 have h3 : 2 ^ k ≤ 65536 ^ j := by
  rw [show (65536 : Nat) = 2 ^ 16 from rfl, ← Nat.pow_mul]
  exact Nat.pow_le_pow_right (by omega) (by omega)
 rw [Nat.pow_add]
 have h4 : 0 < 65536 ^ j := Nat.pow_pos (by omega)
 generalize 65536 ^ j = c at *
 generalize 65536 ^ L = d at *
 have h5 : n * 2 ^ k ≤ n * c := Nat.mul_le_mul_left _ h3
 have h6 : n * c < d * c := Nat.mul_lt_mul_of_pos_right (by omega) h4
 omega
theorem add_len16 (x y L : Nat) (hx : (Dg.dg 65536 x).length ≤ L) (hy : (Dg.dg 65536 y).length ≤ L) : (Dg.dg 65536 (x + y)).length ≤ L + 1 := by
 apply Dg.dg_len_le 65536 _ _ (by omega)
 have h1 := Dg.vl_lt 65536 (Dg.dg 65536 x) (Dg.small_dg _ _ (by omega))
 have h2 := Dg.vl_lt 65536 (Dg.dg 65536 y) (Dg.small_dg _ _ (by omega))
 rw [Dg.vl_dg _ _ (by omega)] at h1 h2
 have h3 : 65536 ^ (Dg.dg 65536 x).length ≤ 65536 ^ L := Nat.pow_le_pow_right (by omega) hx
 have h4 : 65536 ^ (Dg.dg 65536 y).length ≤ 65536 ^ L := Nat.pow_le_pow_right (by omega) hy
 rw [Nat.pow_succ]
 omega
theorem cmpI_ge {a b : Int} (h : b ≤ a) : decide (0 ≤ cmpI a b) = true := by
 unfold cmpI
 rw [if_neg (by omega)]
 by_cases h2 : b < a
 ·rw [if_pos h2]; rfl
 ·rw [if_neg h2]; rfl
end Go.Proofs.YtnhackdjplppjaaGreatDoor

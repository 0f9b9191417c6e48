/-
  Texts laid together: Ce10, Dl3, Gn1.
-/
import Derived.Test.YtiiphandhpilgaaGreatDoorNd18
import Derived.Test.YtiiphandhpilgaaGreatDoorNd19
import Derived.Test.YtiiphandhpilgaaGreatDoorNd29
import Derived.Test.YtiiphandhpilgaaGreatDoorNd30
set_option maxRecDepth 100000
namespace Go.Proofs.YtiiphandhpilgaaGreatDoor
open Go.RowKit
theorem rd_one {w : World} {q : Nat} (h : w.cell? ⟨q, 0, none⟩ = some (.int .u32 1)) : Rd w .u32 (.slice (some ⟨q, 0, none⟩) 1 1) [1] :=
 ⟨_, 1, rfl, Nat.le_refl _, by unfold maxLen; omega, fun _ => ⟨q, 0, rfl, fun i hi => by
  obtain rfl : i = 0 := by simpa using hi
  exact h⟩⟩
theorem bareN_nil (a : Trip) : (bare a).n = 0 ↔ a.n = 0 := by
 by_cases h : a.n = 0
 ·unfold bare
  rw [if_pos h]
  exact ⟨fun _ => h, fun _ => rfl⟩
 ·unfold bare
  rw [if_neg h]
  obtain ⟨m, hm⟩ := tz_spec h
  have := div_tz hm
  exact ⟨fun h2 => by simp only at h2; omega, fun h2 => absurd h2 h⟩
theorem leadN_lt64 {k : Nat} (hk : 1 ≤ k ∧ k ≤ 8) : leadN k < 18446744073709551616 := by
 rcases eight hk with rfl | rfl | rfl | rfl | rfl | rfl | rfl | rfl <;> decide
def heE (R L : Int) (ld : Nat) (t : PlaceT) : Nat := (t.p - L).toNat + if R = 2 ∧ t.d &&& ld ≠ 0 then 1 else 0
set_option maxHeartbeats 1600000 in
theorem held_pay (R D L G fam : Int) (gr : Bool) (sz ex : Nat) (F ld : Nat) (s : Bool) (ao : Option Addr) (ca : Nat) (xs : List Nat) (E : Int) (w : World) (WB : Bool → Nat → Nat → ByteArray)
  (hr : Rd w .u32 (.slice ao xs.length ca) xs) (sa : Dg.Small 4294967296 xs) (hd : dchk xs E = 0) (h0 : Dg.vl 4294967296 xs ≠ 0) (hg : gridC R D L G = 0) (h1 : 1 ≤ D) (hLG : L ≤ G) (hD : widthN R * D.toNat ≤ 64) (hGL : G - L < 60000) (hRc : R = 2 ∨ R = 16) (hld : ld < 18446744073709551616)
  (hh : heldB R D L G gr (Dg.vl 4294967296 xs) E = true)
  (HL : ∀ w1, Calls Tryz.prog 90 #[.agg #[.int .i64 R, .int .i64 D, .int .i64 L, .int .i64 G, .bool gr, .int .i64 (sz : Int), .int .i64 (ex : Int), .int .i64 fam, .func (.func F) #[] #[]]] w1 fun z w' => z = .returned (.int .u64 (ld : Int)) ∧ Below w1.heap.size w1 w')
  (HW : ∀ ng e f w1, e < 65536 → f < 18446744073709551616 → Calls Tryz.prog 58 #[.agg #[.int .i64 R, .int .i64 D, .int .i64 L, .int .i64 G, .bool gr, .int .i64 (sz : Int), .int .i64 (ex : Int), .int .i64 fam, .func (.func F) #[] #[]], .agg #[.bool ng, .int .i64 ((e : Nat) : Int), .int .u64 ((f : Nat) : Int)]] w1 fun z w' => z = .returned (.string (WB ng e f)) ∧ Below w1.heap.size w1 w') :
  Calls Tryz.prog 41 #[.agg #[.int .i64 R, .int .i64 D, .int .i64 L, .int .i64 G, .bool gr, .int .i64 (sz : Int), .int .i64 (ex : Int), .int .i64 fam, .func (.func F) #[] #[]], .agg #[.bool s, .slice ao xs.length ca, .int .i64 E]] w fun z w' => z = .returned (.tuple #[.string (WB (roundT R D L G gr s (Dg.vl 4294967296 xs) 1 E 3).s (heE R L ld (roundT R D L G gr s (Dg.vl 4294967296 xs) 1 E 3)) (roundT R D L G gr s (Dg.vl 4294967296 xs) 1 E 3).d), .int .i64 0]) ∧ Below w.heap.size w w' := by
 obtain ⟨c1, e1, e2⟩ := dchk_zero hd
 have hlen : xs.length ≠ 0 := fun h => h0 (by rw [List.eq_nil_of_length_eq_zero h]; rfl)
 have hC : roundC xs [1] E R D L G 3 = 0 := by
  have hq : ratioC xs [1] E = 0 := by
   unfold ratioC
   rw [if_pos c1, if_pos (show chk [1] = 0 by decide), if_neg]
   rintro (h | h)
   ·simp at h
   ·unfold farB at h
    simp at h
    omega
  have hw : wrongG (ratioC xs [1] E) (gridC R D L G) = 0 := by unfold wrongG; rw [if_pos hq]; exact hg
  unfold roundC
  rw [if_pos hw, if_pos (by decide)]
 have hP : roundP xs [1] E R D L G gr s 3 = roundT R D L G gr s (Dg.vl 4294967296 xs) 1 E 3 := by
  unfold roundP
  rw [if_pos hC, if_neg hlen]
  rfl
 obtain ⟨hov, hun, hbare⟩ := held_round (s := s) (way := 3) h1 hLG h0 hh
 have hsp := round_spot h1 hLG h0 (by omega : (1 : Nat) ≠ 0) hov hun
 have hR := fun q w1 (b : Below w.heap.size w w1) (hc : w1.cell? ⟨q, 0, none⟩ = some (.int .u32 1)) => gRound_any s ao ca xs (some ⟨q, 0, none⟩) 1 [1] E R D L G gr 3 w1 (hr.later b) (rd_one hc) sa (fun i => by
  match i with
  | 0 => decide
  | i + 1 => simp)
 rw [hC, hP] at hR
 obtain ⟨t, ht⟩ : ∃ t, roundT R D L G gr s (Dg.vl 4294967296 xs) 1 E 3 = t := ⟨_, rfl⟩
 rw [ht] at hsp hbare hR ⊢
 have hd0 : t.d ≠ 0 := fun h => by
  have hz := congrArg Trip.n hbare
  have a1 := (bareN_nil ⟨t.s, t.d, (widthN R : Int) * t.p⟩).2 h
  rw [hz] at a1
  exact h0 ((bareN_nil ⟨s, Dg.vl 4294967296 xs, E⟩).1 a1)
 obtain ⟨-, hp1, hp2, hdl, -⟩ := hsp.resolve_left (fun h => hd0 h.1)
 have hd64 : t.d < 18446744073709551616 := by
  have : (2 : Nat) ^ (widthN R * D.toNat) ≤ 2 ^ 64 := Nat.pow_le_pow_right (by omega) hD
  omega
 clear ht hov hun hbare hsp hC hP hh
 obtain ⟨e, he⟩ : ∃ e : Nat, t.p - L = (e : Int) := ⟨(t.p - L).toNat, by omega⟩
 have hel : e < 60000 := by omega
 have hew : IntKind.i64.wrap (t.p - L) = (e : Int) := by rw [he]; exact IntWalk.i64_in _ ⟨by omega, by omega⟩
 have hzl : (Dg.dg 4294967296 t.d).length ≤ 2 := Dg.dg_len_le 4294967296 t.d 2 (by omega) hd64
 have hzp : 0 < (Dg.dg 4294967296 t.d).length := List.length_pos_iff.2 (by rw [Ne, Dg.dg_nil_iff 4294967296 t.d (by omega)]; exact hd0)
 have HWd : ∀ po pc w1, Rd w1 .u32 (.slice po (Dg.dg 4294967296 t.d).length pc) (Dg.dg 4294967296 t.d) → ∀ w2, Below w1.heap.size w1 w2 → Calls Tryz.prog 113 #[.slice po (Dg.dg 4294967296 t.d).length pc] w2 fun z w' => z = .returned (.int .u64 (t.d : Int)) ∧ w2 = w' := fun po pc w1 h w2 b => by
  have := word_any _ _ w2 (h.later b) (Dg.small_dg 4294967296 t.d (by omega)) hzl
  rw [Dg.vl_dg 4294967296 t.d (by omega)] at this
  exact this.mono (fun _ _ h => ⟨h.1, h.2.symm⟩)
 have hen : (t.p - L).toNat = e := by omega
 unfold heE
 rw [hen]
 have HR2 : ∀ q w1, Below w.heap.size w w1 → w1.cell? ⟨q, 0, none⟩ = some (.int .u32 1) → Calls Tryz.prog 74 #[.agg #[.bool s, .slice ao xs.length ca, .slice (some ⟨q, 0, none⟩) 1 1, .int .i64 E], .agg #[.int .i64 R, .int .i64 D, .int .i64 L, .int .i64 G, .bool gr], .int .i64 3] w1 fun z w' => ∃ po pc, z = .returned (.tuple #[.agg #[.bool t.s, .slice po (Dg.dg 4294967296 t.d).length pc, .int .i64 t.p, .bool t.ex, .bool t.ov, .bool t.un], .int .i64 0]) ∧ Rd w' .u32 (.slice po (Dg.dg 4294967296 t.d).length pc) (Dg.dg 4294967296 t.d) ∧ Below w1.heap.size w1 w' := fun q w1 b hc => (hR q w1 b hc).mono (fun z w' h => by
  obtain ⟨v, rfl, own, b2⟩ := h
  obtain ⟨po, pc, hv⟩ := own.rd.shape
  subst hv
  exact ⟨po, pc, rfl, own.rd, b2⟩)
 rcases hRc with rfl | rfl
 ·by_cases hb : t.d &&& ld = 0
  ·rw [if_neg (fun h => h.2 hb), Nat.add_zero]
   exact heldW_num _ D L G fam gr sz ex F s ao xs.length ca E w (Dg.dg 4294967296 t.d) _ t.s t.ex t.ov t.un t.p 0 HR2 t.s e t.d (fun po pc w1 _ h => fieldsOf_low D L G fam gr sz ex F t.s t.ex t.ov t.un po _ pc t.p e t.d w1 hew (by omega) (HWd po pc w1 h) ld 0 (by rw [u64_and_nat t.d ld hd64 hld, hb]; rfl) rfl HL) _ (fun w1 => HW t.s e t.d w1 (by omega) hd64) rfl hzp
  ·rw [if_pos ⟨rfl, hb⟩]
   have hF : ∀ po pc w1, Below w.heap.size w w1 → Rd w1 .u32 (.slice po (Dg.dg 4294967296 t.d).length pc) (Dg.dg 4294967296 t.d) → _ := fun po pc w1 _ h => fieldsOf_set D L G fam gr sz ex F t.s t.ex t.ov t.un po _ pc t.p e t.d w1 hew (by omega) (HWd po pc w1 h) ld ((t.d &&& ld : Nat) : Int) (u64_and_nat t.d ld hd64 hld) (by omega) HL
   exact heldW_num _ D L G fam gr sz ex F s ao xs.length ca E w (Dg.dg 4294967296 t.d) _ t.s t.ex t.ov t.un t.p 0 HR2 t.s (e + 1) t.d hF _ (fun w1 => HW t.s (e + 1) t.d w1 (by omega) hd64) rfl hzp
 ·rw [if_neg (fun h => by have := h.1; omega), Nat.add_zero]
  exact heldW_num _ D L G fam gr sz ex F s ao xs.length ca E w (Dg.dg 4294967296 t.d) _ t.s t.ex t.ov t.un t.p 0 HR2 t.s e t.d (fun po pc w1 _ h => fieldsOf_hex D L G fam gr sz ex F t.s t.ex t.ov t.un po _ pc t.p e t.d w1 hew (by omega) (HWd po pc w1 h)) _ (fun w1 => HW t.s e t.d w1 (by omega) hd64) rfl hzp
def gsI : Nat → Int
 | 1 => 104 | 2 => 971 | 3 => 16320 | 4 => 57 | 5 => 49 | 6 => 103 | 7 => 71 | 8 => 970 | _ => 0
def plT (k : Nat) (s : Bool) (n : Nat) (E : Int) : PlaceT := roundT (rdN k : Int) (dgN k : Int) (lsI k) (gsI k) (decide (k ≤ 3)) s n 1 E 3
theorem encodeHeld_any (k : Nat) (hk : 1 ≤ k ∧ k ≤ 8) (s : Bool) (ao : Option Addr) (ca : Nat) (xs : List Nat) (E : Int) (w : World) (hr : Rd w .u32 (.slice ao xs.length ca) xs) (sa : Dg.Small 4294967296 xs) (hd : dchk xs E = 0) (h0 : Dg.vl 4294967296 xs ≠ 0)
  (hh : heldB (rdN k : Int) (dgN k : Int) (lsI k) (gsI k) (decide (k ≤ 3)) (Dg.vl 4294967296 xs) E = true) :
  Calls Tryz.prog 41 #[.agg (layV k).toArray, .agg #[.bool s, .slice ao xs.length ca, .int .i64 E]] w fun z w' => z = .returned (.tuple #[.string (strOf (wrtB k (plT k s (Dg.vl 4294967296 xs) E).s (heE (rdN k : Int) (lsI k) (leadN k) (plT k s (Dg.vl 4294967296 xs) E)) (plT k s (Dg.vl 4294967296 xs) E).d)), .int .i64 0]) ∧ Below w.heap.size w w' := by
 have HL := fun w1 => llead_any k hk w1
 have HW := fun ng e f w1 (he : e < 65536) (hf : f < 18446744073709551616) => cwrite_any k hk ng e f w1 he hf
 have hl := leadN_lt64 hk
 unfold plT
 rcases eight hk with rfl | rfl | rfl | rfl | rfl | rfl | rfl | rfl
 all_goals exact held_pay _ _ _ _ _ _ _ _ _ _ s ao ca xs E w (fun ng e f => strOf (wrtB _ ng e f)) hr sa hd h0 (by decide) (by decide) (by decide) (by decide) (by decide) (by decide) hl hh HL HW
end Go.Proofs.YtiiphandhpilgaaGreatDoor
namespace Go.Proofs.YtiiphandhpilgaaGreatDoor
open Go.RowKit
theorem bare_n_le (t : Trip) : (bare t).n ≤ t.n := by
 unfold bare
 split
 ·exact Nat.zero_le _
 ·exact Nat.div_le_self _ _
end Go.Proofs.YtiiphandhpilgaaGreatDoor
namespace Go.Proofs.YtiiphandhpilgaaGreatDoor
open Go.RowKit
set_option maxHeartbeats 1600000 in
theorem gnumberW (R D L G : Int) (gr ng : Bool) (ao : Option Addr) (la ca : Nat) (p wd : Int) (w : World) (WP : IntKind.i64.wrap (wd * p) = wd * p)
  (HW : ∀ w1, Calls Tryz.prog 108 #[.agg #[.int .i64 R, .int .i64 D, .int .i64 L, .int .i64 G, .bool gr]] w1 fun z w' => z = .returned (.int .i64 wd) ∧ Below w1.heap.size w1 w') :
  Calls Tryz.prog 72 #[.agg #[.int .i64 R, .int .i64 D, .int .i64 L, .int .i64 G, .bool gr], .bool ng, .agg #[.slice ao la ca, .int .i64 p]] w fun z w' => z = .returned (.agg #[.bool ng, .slice ao la ca, .int .i64 (wd * p)]) ∧ Below w.heap.size w w' := by
 replace HW : Hid _ := HW
 have HN : Hid (∀ w1, Calls Tryz.prog 107 #[.bool ng, .slice ao la ca, .int .i64 (wd * p)] w1 fun x w' => x = .returned (.agg #[.bool ng, .slice ao la ca, .int .i64 (wd * p)]) ∧ Below w1.heap.size w1 w') := fun w1 => new_any ng ao la ca (wd * p) w1
 have b1 := below_trans (below_trans (below_alloc w (.cells #[.int .i64 R, .int .i64 D, .int .i64 L, .int .i64 G, .bool gr] 140)) (below_alloc _ (.cells #[.slice ao la ca, .int .i64 p] 136))) (below_alloc _ (.cells #[.bool false, .slice none 0 0, .int .i64 0] 108))
 have g1 := ((locE_new w [.int .i64 R, .int .i64 D, .int .i64 L, .int .i64 G, .bool gr] 140).later (below_alloc _ (.cells #[.slice ao la ca, .int .i64 p] 136))).later (below_alloc _ (.cells #[.bool false, .slice none 0 0, .int .i64 0] 108))
 have s1 := (locE_new (w.alloc (.cells #[.int .i64 R, .int .i64 D, .int .i64 L, .int .i64 G, .bool gr] 140)) [.slice ao la ca, .int .i64 p] 136).later (below_alloc _ (.cells #[.bool false, .slice none 0 0, .int .i64 0] 108))
 have c1 := locE_new ((w.alloc (.cells #[.int .i64 R, .int .i64 D, .int .i64 L, .int .i64 G, .bool gr] 140)).alloc (.cells #[.slice ao la ca, .int .i64 p] 136)) [.bool false, .slice none 0 0, .int .i64 0] 108
 simp only [World.size_alloc] at s1 c1
 have g_2 := g1.later ((Below.refl _ _).drew)
 have s_2 := s1.later ((Below.refl _ _).drew)
 have c_2 := c1.later ((Below.refl _ _).drew)
 have b0_2 := below_trans b1 ((Below.refl _ _).drew)
 clear g1 s1 c1 b1
 obtain ⟨x0, x1, x2, x3, x4⟩ := g_2.cs5
 obtain ⟨y0, y1⟩ := s_2.cs2
 have nA : w.heap.size + 1 + 1 ≠ w.heap.size := by omega
 have nB : w.heap.size + 1 + 1 ≠ w.heap.size + 1 := by omega
 go_enter Tryz.func72, Tryz.ntmps72
 go_wp2_with fail
 go_region_held3 (fun wq => wq.cell? ⟨w.heap.size, 0, none⟩ = some (.int .i64 R) ∧ wq.cell? ⟨w.heap.size, 1, none⟩ = some (.int .i64 D) ∧ wq.cell? ⟨w.heap.size, 2, none⟩ = some (.int .i64 L) ∧ wq.cell? ⟨w.heap.size, 3, none⟩ = some (.int .i64 G) ∧ wq.cell? ⟨w.heap.size, 4, none⟩ = some (.bool gr) ∧ wq.cell? ⟨w.heap.size + 1, 0, none⟩ = some (.slice ao la ca) ∧ wq.cell? ⟨w.heap.size + 1, 1, none⟩ = some (.int .i64 p)) (go_keep) (first
  | (go_at_call 108; have hgd := b0_2; clear hgd; refine (HW.out _).mono ?_; rintro z wa ⟨rfl, bb_wa⟩; have b0_wa := below_trans b0_2 bb_wa; have g_wa := g_2.later bb_wa; have s_wa := s_2.later bb_wa; have c_wa := c_2.later bb_wa; obtain ⟨xa0, xa1, xa2, xa3, xa4⟩ := g_wa.cs5; obtain ⟨ya0, ya1⟩ := s_wa.cs2; clear b0_2)
  | (go_at_call 107; have hgd := b0_wa; clear hgd; refine (HN.out _).mono ?_; rintro z wb ⟨rfl, bb_wb⟩; have b0_wb := below_trans b0_wa bb_wb; have g_wb := g_wa.later bb_wb; have s_wb := s_wa.later bb_wb; have c_wb := c_wa.later bb_wb; obtain ⟨xb0, xb1, xb2, xb3, xb4⟩ := g_wb.cs5; obtain ⟨yb0, yb1⟩ := s_wb.cs2; have z0 := c_wb.cell 0 rfl; have e0 := c_wb.free 0; have z1 := c_wb.cell 1 rfl; have e1 := c_wb.free 1; have z2 := c_wb.cell 2 rfl; have e2 := c_wb.free 2; clear b0_wa))
 all_goals go_wp2
 have bu : But (w.heap.size + 1 + 1) wb (((wb.setCell ⟨w.heap.size + 1 + 1, 0, none⟩ (.bool ng)).setCell ⟨w.heap.size + 1 + 1, 1, none⟩ (.slice ao la ca)).setCell ⟨w.heap.size + 1 + 1, 2, none⟩ (.int .i64 (wd * p))) := ((but_set wb (w.heap.size + 1 + 1) 0 (.bool ng)).trans (but_set _ (w.heap.size + 1 + 1) 1 (.slice ao la ca))).trans (but_set _ (w.heap.size + 1 + 1) 2 (.int .i64 (wd * p)))
 have cX : LocE (((wb.setCell ⟨w.heap.size + 1 + 1, 0, none⟩ (.bool ng)).setCell ⟨w.heap.size + 1 + 1, 1, none⟩ (.slice ao la ca)).setCell ⟨w.heap.size + 1 + 1, 2, none⟩ (.int .i64 (wd * p))) (w.heap.size + 1 + 1) 108 [.bool ng, .slice ao la ca, .int .i64 (wd * p)] := ((c_wb.set 0 (.bool ng)).set 1 (.slice ao la ca)).set 2 (.int .i64 (wd * p))
 have bX := bu.below b0_wb (show w.heap.size ≤ w.heap.size + 1 + 1 by omega)
 obtain ⟨s0, s1, s2⟩ := cX.cs3
 refine bodyPost_ret (v := .agg #[.bool ng, .slice ao la ca, .int .i64 (wd * p)]) (by simp [results, Tryz.results72, go_sem, s0, s1, s2]) rfl ?_
 exact ⟨rfl, bX⟩
set_option maxHeartbeats 3200000 in
theorem gNumberW (R D L G : Int) (gr s : Bool) (ao : Option Addr) (la ca : Nat) (p : Int) (x1 x2 x3 : Bool) (wd nc gc c : Int) (far rs : Bool) (rn : Nat) (re : Int) (w : World)
  (HA : ¬nc = 0 → rs = false ∧ rn = 0 ∧ re = 0 ∧ c = nc) (HB : nc = 0 → ¬gc = 0 → rs = false ∧ rn = 0 ∧ re = 0 ∧ c = gc) (HC : nc = 0 → gc = 0 → far = true → rs = false ∧ rn = 0 ∧ re = 0 ∧ c = 3)
  (HN : ∀ w1, Below w.heap.size w w1 → Calls Tryz.prog 21 #[.slice ao la ca] w1 fun z w' => z = .returned (.int .i64 nc) ∧ Below w1.heap.size w1 w')
  (HG : ∀ w1, Calls Tryz.prog 97 #[.agg #[.int .i64 R, .int .i64 D, .int .i64 L, .int .i64 G, .bool gr]] w1 fun z w' => z = .returned (.int .i64 gc) ∧ Below w1.heap.size w1 w')
  (HF : ∀ w1, Calls Tryz.prog 98 #[.int .i64 p, .int .i64 20000] w1 fun z w' => z = .returned (.bool far) ∧ w' = w1)
  (HM : nc = 0 → gc = 0 → far = false → ∀ w1, Calls Tryz.prog 72 #[.agg #[.int .i64 R, .int .i64 D, .int .i64 L, .int .i64 G, .bool gr], .bool s, .agg #[.slice ao la ca, .int .i64 p]] w1 fun z w' => z = .returned (.agg #[.bool s, .slice ao la ca, .int .i64 (wd * p)]) ∧ Below w1.heap.size w1 w')
  (HS : nc = 0 → gc = 0 → far = false → ∀ w1, Below w.heap.size w w1 → Calls Tryz.prog 73 #[.agg #[.bool s, .slice ao la ca, .int .i64 (wd * p)]] w1 (DAns w1 (⟨rs, rn, re⟩, c))) :
  Calls Tryz.prog 68 #[.agg #[.bool s, .slice ao la ca, .int .i64 p, .bool x1, .bool x2, .bool x3], .agg #[.int .i64 R, .int .i64 D, .int .i64 L, .int .i64 G, .bool gr]] w (DAns w (⟨rs, rn, re⟩, c)) := by
 replace HA : Hid _ := HA
 replace HB : Hid _ := HB
 replace HC : Hid _ := HC
 replace HN : Hid _ := HN
 replace HG : Hid _ := HG
 replace HF : Hid _ := HF
 replace HM : Hid _ := HM
 replace HS : Hid _ := HS
 have b1 := below_trans (below_trans (below_alloc w (.cells #[.bool s, .slice ao la ca, .int .i64 p, .bool x1, .bool x2, .bool x3] 134)) (below_alloc _ (.cells #[.int .i64 R, .int .i64 D, .int .i64 L, .int .i64 G, .bool gr] 42))) (below_alloc _ (.cells #[.bool false, .slice none 0 0, .int .i64 0] 87))
 have q1 := ((locE_new w [.bool s, .slice ao la ca, .int .i64 p, .bool x1, .bool x2, .bool x3] 134).later (below_alloc _ (.cells #[.int .i64 R, .int .i64 D, .int .i64 L, .int .i64 G, .bool gr] 42))).later (below_alloc _ (.cells #[.bool false, .slice none 0 0, .int .i64 0] 87))
 have g1 := (locE_new (w.alloc (.cells #[.bool s, .slice ao la ca, .int .i64 p, .bool x1, .bool x2, .bool x3] 134)) [.int .i64 R, .int .i64 D, .int .i64 L, .int .i64 G, .bool gr] 42).later (below_alloc _ (.cells #[.bool false, .slice none 0 0, .int .i64 0] 87))
 have c1 := locE_new ((w.alloc (.cells #[.bool s, .slice ao la ca, .int .i64 p, .bool x1, .bool x2, .bool x3] 134)).alloc (.cells #[.int .i64 R, .int .i64 D, .int .i64 L, .int .i64 G, .bool gr] 42)) [.bool false, .slice none 0 0, .int .i64 0] 87
 simp only [World.size_alloc] at g1 c1
 by_cases hn : nc = 0
 ·have HB1 : Hid _ := HB.out hn
  have HC1 : Hid _ := HC.out hn
  have HM1 : Hid _ := HM.out hn
  have HS1 : Hid _ := HS.out hn
  clear HA HB HC HM HS
  subst hn
  by_cases hg : gc = 0
  ·have HC2 : Hid _ := HC1.out hg
   have HM2 : Hid _ := HM1.out hg
   have HS2 : Hid _ := HS1.out hg
   clear HB1 HC1 HM1 HS1
   subst hg
   cases far
   ·have HM3 : Hid _ := HM2.out rfl
    have HS3 : Hid _ := HS2.out rfl
    clear HC2 HM2 HS2
    have y1 := q1.cell 1 rfl
    go_enter Tryz.func68, Tryz.ntmps68
    go_wp2_with fail
    refine (HN.out _ b1).mono ?_
    rintro z w2 ⟨rfl, bb2⟩
    clear y1
    have q_2 := q1.later bb2
    have g_2 := g1.later bb2
    have c_2 := c1.later bb2
    have b0_2 := below_trans b1 bb2
    clear q1 g1 c1 b1 bb2
    obtain ⟨x0, x1, x2, x3, x4⟩ := g_2.cs5
    go_wp2_with fail
    refine (HG.out _).mono ?_
    rintro z w3 ⟨rfl, bb3⟩
    have q_3 := q_2.later bb3
    have g_3 := g_2.later bb3
    have c_3 := c_2.later bb3
    have b0_3 := below_trans b0_2 bb3
    clear q_2 g_2 c_2 b0_2 bb3
    clear x0 x1 x2 x3 x4
    obtain ⟨y0, y1, y2⟩ := q_3.cs3
    obtain ⟨x0, x1, x2, x3, x4⟩ := g_3.cs5
    go_wp2_with fail
    refine (HF.out _).mono ?_
    rintro z w4 ⟨rfl, rfl⟩
    go_wp2_with fail
    refine (HM3.out _).mono ?_
    rintro z w5 ⟨rfl, bb5⟩
    clear x0 x1 x2 x3 x4 y0 y1 y2
    have q_4 := q_3.later bb5
    have g_4 := g_3.later bb5
    have c_4 := c_3.later bb5
    have b0_4 := below_trans b0_3 bb5
    clear q_3 g_3 c_3 b0_3 bb5
    have hlt : w.heap.size + 1 + 1 < w5.heap.size := c_4.lt
    go_wp2_with fail
    refine (HS3.out _ b0_4).mono ?_
    rintro z w6 ⟨vr, rfl, o6, bb5⟩
    have q_5 := q_4.later bb5
    have g_5 := g_4.later bb5
    have c_5 := c_4.later bb5
    have b0_5 := below_trans b0_4 bb5
    clear q_4 g_4 c_4 b0_4 bb5
    obtain ⟨so, sc, hvr⟩ := o6.rd.shape
    subst hvr
    have d0 := c_5.cell 0 rfl
    have f0 := c_5.free 0
    have d1 := c_5.cell 1 rfl
    have f1 := c_5.free 1
    have d2 := c_5.cell 2 rfl
    have f2 := c_5.free 2
    go_wp2
    have bu : But (w.heap.size + 1 + 1) w6 (((w6.setCell ⟨w.heap.size + 1 + 1, 0, none⟩ (.bool rs)).setCell ⟨w.heap.size + 1 + 1, 1, none⟩ (.slice so (Dg.dg 4294967296 rn).length sc)).setCell ⟨w.heap.size + 1 + 1, 2, none⟩ (.int .i64 re)) := ((but_set w6 (w.heap.size + 1 + 1) 0 (.bool rs)).trans (but_set _ (w.heap.size + 1 + 1) 1 (.slice so (Dg.dg 4294967296 rn).length sc))).trans (but_set _ (w.heap.size + 1 + 1) 2 (.int .i64 re))
    have cX : LocE (((w6.setCell ⟨w.heap.size + 1 + 1, 0, none⟩ (.bool rs)).setCell ⟨w.heap.size + 1 + 1, 1, none⟩ (.slice so (Dg.dg 4294967296 rn).length sc)).setCell ⟨w.heap.size + 1 + 1, 2, none⟩ (.int .i64 re)) (w.heap.size + 1 + 1) 87 [.bool rs, .slice so (Dg.dg 4294967296 rn).length sc, .int .i64 re] := ((c_5.set 0 (.bool rs)).set 1 (.slice so (Dg.dg 4294967296 rn).length sc)).set 2 (.int .i64 re)
    have bX := bu.below b0_5 (show w.heap.size ≤ w.heap.size + 1 + 1 by omega)
    have oX := bu.own o6 c_5 (by decide)
    obtain ⟨s0, s1, s2⟩ := cX.cs3
    refine bodyPost_ret (v := .tuple #[.agg #[.bool rs, .slice so (Dg.dg 4294967296 rn).length sc, .int .i64 re], .int .i64 c]) (by simp [results, Tryz.results68, go_sem, s0, s1, s2]) rfl ?_
    exact ⟨_, rfl, oX.lower (by omega), bX⟩
   ·obtain ⟨h1, h2, h3, h4⟩ := HC2.out rfl
    clear HC2 HM2 HS2
    subst h1 h2 h3 h4
    have y1 := q1.cell 1 rfl
    go_enter Tryz.func68, Tryz.ntmps68
    go_wp2_with fail
    refine (HN.out _ b1).mono ?_
    rintro z w2 ⟨rfl, bb2⟩
    clear y1
    have q_2 := q1.later bb2
    have g_2 := g1.later bb2
    have c_2 := c1.later bb2
    have b0_2 := below_trans b1 bb2
    clear q1 g1 c1 b1 bb2
    obtain ⟨x0, x1, x2, x3, x4⟩ := g_2.cs5
    go_wp2_with fail
    refine (HG.out _).mono ?_
    rintro z w3 ⟨rfl, bb3⟩
    have q_3 := q_2.later bb3
    have g_3 := g_2.later bb3
    have c_3 := c_2.later bb3
    have b0_3 := below_trans b0_2 bb3
    clear q_2 g_2 c_2 b0_2 bb3
    clear x0 x1 x2 x3 x4
    have y2 := q_3.cell 2 rfl
    go_wp2_with fail
    refine (HF.out _).mono ?_
    rintro z w4 ⟨rfl, rfl⟩
    clear y2
    have d0 := c_3.cell 0 rfl
    have f0 := c_3.free 0
    have d1 := c_3.cell 1 rfl
    have f1 := c_3.free 1
    have d2 := c_3.cell 2 rfl
    have f2 := c_3.free 2
    go_wp2
    have bu : But (w.heap.size + 1 + 1) w4 (((w4.setCell ⟨w.heap.size + 1 + 1, 0, none⟩ (.bool false)).setCell ⟨w.heap.size + 1 + 1, 1, none⟩ (.slice none 0 0)).setCell ⟨w.heap.size + 1 + 1, 2, none⟩ (.int .i64 0)) := ((but_set w4 (w.heap.size + 1 + 1) 0 (.bool false)).trans (but_set _ (w.heap.size + 1 + 1) 1 (.slice none 0 0))).trans (but_set _ (w.heap.size + 1 + 1) 2 (.int .i64 0))
    have cX : LocE (((w4.setCell ⟨w.heap.size + 1 + 1, 0, none⟩ (.bool false)).setCell ⟨w.heap.size + 1 + 1, 1, none⟩ (.slice none 0 0)).setCell ⟨w.heap.size + 1 + 1, 2, none⟩ (.int .i64 0)) (w.heap.size + 1 + 1) 87 [.bool false, .slice none 0 0, .int .i64 0] := ((c_3.set 0 (.bool false)).set 1 (.slice none 0 0)).set 2 (.int .i64 0)
    have bX := bu.below b0_3 (show w.heap.size ≤ w.heap.size + 1 + 1 by omega)
    obtain ⟨s0, s1, s2⟩ := cX.cs3
    refine bodyPost_ret (v := .tuple #[.agg #[.bool false, .slice none 0 0, .int .i64 0], .int .i64 3]) (by simp [results, Tryz.results68, go_sem, s0, s1, s2]) rfl ?_
    exact ⟨_, rfl, own_nil _ _ _ _, bX⟩
  ·obtain ⟨h1, h2, h3, h4⟩ := HB1.out hg
   clear HB1 HC1 HM1 HS1
   have hgf : (gc == 0) = false := by simp [hg]
   subst h1 h2 h3 h4
   have y1 := q1.cell 1 rfl
   go_enter Tryz.func68, Tryz.ntmps68
   go_wp2_with fail
   refine (HN.out _ b1).mono ?_
   rintro z w2 ⟨rfl, bb2⟩
   clear y1
   have q_2 := q1.later bb2
   have g_2 := g1.later bb2
   have c_2 := c1.later bb2
   have b0_2 := below_trans b1 bb2
   clear q1 g1 c1 b1 bb2
   obtain ⟨x0, x1, x2, x3, x4⟩ := g_2.cs5
   go_wp2_with fail
   refine (HG.out _).mono ?_
   rintro z w3 ⟨rfl, bb3⟩
   have q_3 := q_2.later bb3
   have g_3 := g_2.later bb3
   have c_3 := c_2.later bb3
   have b0_3 := below_trans b0_2 bb3
   clear q_2 g_2 c_2 b0_2 bb3
   clear x0 x1 x2 x3 x4
   have d0 := c_3.cell 0 rfl
   have f0 := c_3.free 0
   have d1 := c_3.cell 1 rfl
   have f1 := c_3.free 1
   have d2 := c_3.cell 2 rfl
   have f2 := c_3.free 2
   go_wp2
   have bu : But (w.heap.size + 1 + 1) w3 (((w3.setCell ⟨w.heap.size + 1 + 1, 0, none⟩ (.bool false)).setCell ⟨w.heap.size + 1 + 1, 1, none⟩ (.slice none 0 0)).setCell ⟨w.heap.size + 1 + 1, 2, none⟩ (.int .i64 0)) := ((but_set w3 (w.heap.size + 1 + 1) 0 (.bool false)).trans (but_set _ (w.heap.size + 1 + 1) 1 (.slice none 0 0))).trans (but_set _ (w.heap.size + 1 + 1) 2 (.int .i64 0))
   have cX : LocE (((w3.setCell ⟨w.heap.size + 1 + 1, 0, none⟩ (.bool false)).setCell ⟨w.heap.size + 1 + 1, 1, none⟩ (.slice none 0 0)).setCell ⟨w.heap.size + 1 + 1, 2, none⟩ (.int .i64 0)) (w.heap.size + 1 + 1) 87 [.bool false, .slice none 0 0, .int .i64 0] := ((c_3.set 0 (.bool false)).set 1 (.slice none 0 0)).set 2 (.int .i64 0)
   have bX := bu.below b0_3 (show w.heap.size ≤ w.heap.size + 1 + 1 by omega)
   obtain ⟨s0, s1, s2⟩ := cX.cs3
   refine bodyPost_ret (v := .tuple #[.agg #[.bool false, .slice none 0 0, .int .i64 0], .int .i64 c]) (by simp [results, Tryz.results68, go_sem, s0, s1, s2]) rfl ?_
   exact ⟨_, rfl, own_nil _ _ _ _, bX⟩
 ·obtain ⟨h1, h2, h3, h4⟩ := HA.out hn
  clear HA HB HC HM HS
  have hnf : (nc == 0) = false := by simp [hn]
  subst h1 h2 h3 h4
  have y1 := q1.cell 1 rfl
  go_enter Tryz.func68, Tryz.ntmps68
  go_wp2_with fail
  refine (HN.out _ b1).mono ?_
  rintro z w2 ⟨rfl, bb2⟩
  clear y1
  have q_2 := q1.later bb2
  have g_2 := g1.later bb2
  have c_2 := c1.later bb2
  have b0_2 := below_trans b1 bb2
  clear q1 g1 c1 b1 bb2
  have d0 := c_2.cell 0 rfl
  have f0 := c_2.free 0
  have d1 := c_2.cell 1 rfl
  have f1 := c_2.free 1
  have d2 := c_2.cell 2 rfl
  have f2 := c_2.free 2
  go_wp2
  have bu : But (w.heap.size + 1 + 1) w2 (((w2.setCell ⟨w.heap.size + 1 + 1, 0, none⟩ (.bool false)).setCell ⟨w.heap.size + 1 + 1, 1, none⟩ (.slice none 0 0)).setCell ⟨w.heap.size + 1 + 1, 2, none⟩ (.int .i64 0)) := ((but_set w2 (w.heap.size + 1 + 1) 0 (.bool false)).trans (but_set _ (w.heap.size + 1 + 1) 1 (.slice none 0 0))).trans (but_set _ (w.heap.size + 1 + 1) 2 (.int .i64 0))
  have cX : LocE (((w2.setCell ⟨w.heap.size + 1 + 1, 0, none⟩ (.bool false)).setCell ⟨w.heap.size + 1 + 1, 1, none⟩ (.slice none 0 0)).setCell ⟨w.heap.size + 1 + 1, 2, none⟩ (.int .i64 0)) (w.heap.size + 1 + 1) 87 [.bool false, .slice none 0 0, .int .i64 0] := ((c_2.set 0 (.bool false)).set 1 (.slice none 0 0)).set 2 (.int .i64 0)
  have bX := bu.below b0_2 (show w.heap.size ≤ w.heap.size + 1 + 1 by omega)
  obtain ⟨s0, s1, s2⟩ := cX.cs3
  refine bodyPost_ret (v := .tuple #[.agg #[.bool false, .slice none 0 0, .int .i64 0], .int .i64 c]) (by simp [results, Tryz.results68, go_sem, s0, s1, s2]) rfl ?_
  exact ⟨_, rfl, own_nil _ _ _ _, bX⟩
end Go.Proofs.YtiiphandhpilgaaGreatDoor

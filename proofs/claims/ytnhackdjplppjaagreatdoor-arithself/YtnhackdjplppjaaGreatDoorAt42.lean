/-
  Texts laid together: Oq5, Du2.
-/
import Derived.Test.YtnhackdjplppjaaGreatDoorAt32
import Derived.Test.YtnhackdjplppjaaGreatDoorAt25
set_option maxRecDepth 100000
namespace Go.Proofs.YtnhackdjplppjaaGreatDoor
open Go.RowKit
theorem patC_one {n : Int} {p : ByteArray} (hf : famC n ≠ 0) (h : patC n p ≠ 0) : patC n p = 1 := by
 unfold patC at h ⊢
 rw [if_neg hf] at h ⊢
 by_cases c : p.size = szN n.toNat
 ·rw [if_pos c] at h
  exact absurd rfl h
 ·rw [if_neg c]
theorem errL_one {n : Int} (hf : famC n ≠ 0) : ∀ ps : List ByteArray, errL n ps ≠ 0 → errL n ps = 1
 | [], h => absurd rfl h
 | p :: ps, h => by
  unfold errL at h ⊢
  by_cases c : patC n p = 0
  ·rw [if_pos c] at h ⊢
   exact errL_one hf ps h
  ·rw [if_neg c]
   exact patC_one hf c
theorem errL_zero {n : Int} : ∀ {ps : List ByteArray}, errL n ps = 0 → ∀ p ∈ ps, patC n p = 0
 | [], _, p, hp => by simp at hp
 | q :: ps, h, p, hp => by
  unfold errL at h
  by_cases c : patC n q = 0
  ·rw [if_pos c] at h
   rcases List.mem_cons.1 hp with rfl | h2
   ·exact c
   ·exact errL_zero h p h2
  ·rw [if_neg c] at h
   exact absurd h c
theorem decC_in {n : Int} {p : ByteArray} (h : patC n p = 0) : 1 ≤ decC n p ∧ decC n p ≤ 5 := by
 unfold decC
 rw [if_pos h]
 have := clsN_in n.toNat (fldN n.toNat p) (fldE n.toNat p) (fldF n.toNat p)
 omega
theorem rf_num {k : Nat} (hk : 1 ≤ k ∧ k ≤ 8) (s : ByteArray) (hc : clsN k (fldN k s) (fldE k s) (fldF k s) = 1 ∨ clsN k (fldN k s) (fldE k s) (fldF k s) = 2) : dchk (Dg.dg 4294967296 (nxT k s).n) (nxT k s).e = 0 ∧ bare (nxT k s) = nxT k s := by
 obtain ⟨h1, h2⟩ := en_short (num_is hk s hc)
 refine ⟨h2, ?_⟩
 rw [h1]
 exact bare_bare _
end Go.Proofs.YtnhackdjplppjaaGreatDoor
namespace Go.Proofs.YtnhackdjplppjaaGreatDoor
open Go.RowKit
def overS (a b : Trip) (B : Nat) : Nat := B + bitLen b.n - bitLen a.n
def overT (a b : Trip) (B : Nat) : Trip := endlessT (a.s != b.s) (a.n * 2 ^ overS a b B / b.n) (a.e - b.e - (overS a b B : Int)) (decide (0 < a.n * 2 ^ overS a b B % b.n))
set_option maxHeartbeats 3200000 in
theorem dover_any (v u : Value) (a b : Trip) (B : Nat) (w : World) (hv : Dv w v a) (hu : Dv w u b) (hb0 : 0 < b.n) (hLa : (Dg.dg 4294967296 a.n).length ≤ 3000) (hLb : (Dg.dg 4294967296 b.n).length ≤ 3000)
  (ha1 : -100000 ≤ a.e) (ha2 : a.e ≤ 100000) (hb1 : -100000 ≤ b.e) (hb2 : b.e ≤ 100000) (hB : B ≤ 10000) :
  Calls Tryz.prog 129 #[v, u, .int .i64 B] w (DRes w (overT a b B)) := by
 obtain ⟨s0, rfl, ra⟩ := hv
 obtain ⟨s1, rfl, rb⟩ := hu
 obtain ⟨sa, an, ae⟩ := a
 obtain ⟨sb, bn, be⟩ := b
 simp only at ra rb hLa hLb ha1 ha2 hb1 hb2 hb0 ⊢
 have hla := bitLen_of_len2 hLa
 have hlb := bitLen_of_len2 hLb
 have HBA : Hid (∀ w1, Below w.heap.size w w1 → Calls Tryz.prog 176 #[s0] w1 fun z w' => z = .returned (.int .i64 (bitLen an : Nat)) ∧ w' = w1) := fun w1 b1 => by
  have := bits_any s0 _ w1 (ra.later b1) (Dg.small_dg _ _ (by omega)) (Dg.norm_dg _ _ (by omega)) (by omega)
  rwa [Dg.vl_dg _ _ (by omega)] at this
 have HBB : Hid (∀ w1, Below w.heap.size w w1 → Calls Tryz.prog 176 #[s1] w1 fun z w' => z = .returned (.int .i64 (bitLen bn : Nat)) ∧ w' = w1) := fun w1 b1 => by
  have := bits_any s1 _ w1 (rb.later b1) (Dg.small_dg _ _ (by omega)) (Dg.norm_dg _ _ (by omega)) (by omega)
  rwa [Dg.vl_dg _ _ (by omega)] at this
 unfold overT overS
 simp only
 have hsm : max (0 : Int) ((B : Int) + (bitLen bn : Int) - (bitLen an : Int)) = ((B + bitLen bn - bitLen an : Nat) : Int) := by omega
 have hshl : B + bitLen bn - bitLen an ≤ 106000 := by omega
 obtain ⟨sh, hsh⟩ : ∃ sh, B + bitLen bn - bitLen an = sh := ⟨_, rfl⟩
 rw [hsh] at hsm hshl ⊢
 have HSF : Hid (∀ w1, Below w.heap.size w w1 → Calls Tryz.prog 177 #[s0, .int .i64 sh] w1 (Num w1 (an * 2 ^ sh))) := fun w1 b1 => by
  have := shifted_any s0 _ (sh : Int) w1 (ra.later b1) (Dg.small_dg _ _ (by omega)) (by omega) (by omega) (by omega)
  rw [Dg.vl_dg _ _ (by omega), shN_up _ _ (by omega), Int.toNat_natCast] at this
  exact this
 have hml := up_len an sh 3000 3313 hLa (by omega)
 have HOV : Hid (∀ v1 w1, Below w.heap.size w w1 → Rd w1 .u32 v1 (Dg.dg 4294967296 (an * 2 ^ sh)) → Calls Tryz.prog 178 #[v1, s1] w1 (Two w1 (an * 2 ^ sh / bn) (an * 2 ^ sh % bn))) := fun v1 w1 b1 r => by
  have := over_any v1 s1 _ _ w1 r (rb.later b1) (Dg.small_dg _ _ (by omega)) (Dg.small_dg _ _ (by omega)) (Dg.norm_dg _ _ (by omega)) (Dg.norm_dg _ _ (by omega)) (by rw [Ne, Dg.dg_nil_iff _ _ (by omega)]; omega) (by omega)
  rwa [Dg.vl_dg _ _ (by omega), Dg.vl_dg _ _ (by omega)] at this
 have hql : (Dg.dg 4294967296 (an * 2 ^ sh / bn)).length ≤ 500000 := Nat.le_trans (dg_len_mono 4294967296 _ _ (by omega) (Nat.div_le_self _ _)) (by omega)
 obtain ⟨Q, hQ⟩ : ∃ Q, an * 2 ^ sh / bn = Q := ⟨_, rfl⟩
 obtain ⟨M, hM⟩ : ∃ M, an * 2 ^ sh % bn = M := ⟨_, rfl⟩
 rw [hQ, hM] at HOV ⊢
 rw [hQ] at hql
 have HEN : Hid (∀ v1 lf w1, decide (0 < M) = lf → Rd w1 .u32 v1 (Dg.dg 4294967296 Q) → Calls Tryz.prog 179 #[.bool (sa != sb), v1, .int .i64 (ae - be - (sh : Int)), .bool lf] w1 (DRes w1 (endlessT (sa != sb) Q (ae - be - (sh : Int)) (decide (0 < M))))) := fun v1 lf w1 h r => by
  rw [h]
  exact endless_any _ v1 Q _ lf w1 r hql (by omega) (by omega)
 obtain ⟨⟨zs, zn, ze⟩, hz⟩ : ∃ r, endlessT (sa != sb) Q (ae - be - (sh : Int)) (decide (0 < M)) = r := ⟨_, rfl⟩
 rw [hz] at HEN ⊢
 have hMz : (0 < (Dg.dg 4294967296 M).length) ↔ 0 < M := by
  rw [List.length_pos_iff, Ne, Dg.dg_nil_iff _ _ (by omega)]; omega
 obtain ⟨ao, ca, rfl⟩ := ra.shape
 obtain ⟨bo, cb, rfl⟩ := rb.shape
 obtain ⟨ma, hma⟩ : ∃ m, (Dg.dg 4294967296 an).length = m := ⟨_, rfl⟩
 obtain ⟨mb, hmb⟩ : ∃ m, (Dg.dg 4294967296 bn).length = m := ⟨_, rfl⟩
 obtain ⟨la0, hla0⟩ : ∃ m, bitLen an = m := ⟨_, rfl⟩
 obtain ⟨lb0, hlb0⟩ : ∃ m, bitLen bn = m := ⟨_, rfl⟩
 rw [hma] at HBA HSF ⊢
 rw [hmb] at HBB HOV ⊢
 rw [hla0] at HBA hla hsm
 rw [hlb0] at HBB hlb hsm
 clear hz hma hmb hla0 hlb0 hQ hM ra rb hLa hLb hsh hml hb0 hql
 obtain ⟨la, lb, lc, bb, -⟩ := locals3 w (.bool sa) (.slice ao ma ca) (.int .i64 ae) (.bool sb) (.slice bo mb cb) (.int .i64 be) (.bool false) (.slice none 0 0) (.int .i64 0) 96 96 96
 obtain ⟨W, hW⟩ : ∃ W, (((w.alloc (.cells #[.bool sa, .slice ao ma ca, .int .i64 ae] 96)).alloc (.cells #[.bool sb, .slice bo mb cb, .int .i64 be] 96)).alloc (.cells #[.bool false, .slice none 0 0, .int .i64 0] 96)) = W := ⟨_, rfl⟩
 rw [hW] at la lb lc bb
 have bd : Below W.heap.size W W.drew := (Below.refl _ _).drew
 have la1 := la.later bd
 have lb1 := lb.later bd
 have lc1 := lc.later bd
 have b01 := below_trans bb bd
 rw [← hW] at la1 lb1 lc1 b01
 obtain ⟨-, ⟨c0, c1, c2⟩, -⟩ := id la1
 obtain ⟨-, ⟨c3, c4, c5⟩, -⟩ := id lb1
 have hw1 : IntKind.i64.wrap ((B : Int) + (lb0 : Int)) = (B : Int) + (lb0 : Int) := IntWalk.i64_in _ ⟨by omega, by omega⟩
 have hw2 : IntKind.i64.wrap ((B : Int) + (lb0 : Int) - (la0 : Int)) = (B : Int) + (lb0 : Int) - (la0 : Int) := IntWalk.i64_in _ ⟨by omega, by omega⟩
 clear la lb lc bb bd hW
 go_enter Tryz.func129, Tryz.ntmps129
 go_wp2_with fail
 go_region_held3 (fun wq => (wq.cell? ⟨w.heap.size, 0, none⟩ = some (.bool sa) ∧ wq.cell? ⟨w.heap.size, 1, none⟩ = some (.slice ao ma ca) ∧ wq.cell? ⟨w.heap.size, 2, none⟩ = some (.int .i64 ae)) ∧ wq.cell? ⟨w.heap.size + 1, 0, none⟩ = some (.bool sb) ∧ wq.cell? ⟨w.heap.size + 1, 1, none⟩ = some (.slice bo mb cb) ∧ wq.cell? ⟨w.heap.size + 1, 2, none⟩ = some (.int .i64 be)) (go_keep) (first
  | (go_at_call 172; refine (digits_any sb bo mb cb be _).mono ?_; rintro z w2 ⟨rfl, b2⟩; have la2 := la1.later b2; have lb2 := lb1.later b2; have lc2 := lc1.later b2; have b02 := below_trans b01 b2; obtain ⟨-, ⟨p0, p1, p2⟩, -⟩ := id la2; obtain ⟨-, ⟨p3, p4, p5⟩, -⟩ := id lb2; clear b01)
  | (go_at_call 176; refine (HBB.out w2 b02).mono ?_; rintro z w3 ⟨rfl, rfl⟩; clear HBB)
  | (go_at_call 172; refine (digits_any sa ao ma ca ae _).mono ?_; rintro z w4 ⟨rfl, b4⟩; have la4 := la2.later b4; have lb4 := lb2.later b4; have lc4 := lc2.later b4; have b04 := below_trans b02 b4; obtain ⟨-, ⟨q0, q1, q2⟩, -⟩ := id la4; obtain ⟨-, ⟨q3, q4, q5⟩, -⟩ := id lb4)
  | (go_at_call 176; refine (HBA.out w4 b04).mono ?_; rintro z w5 ⟨rfl, rfl⟩))
 clear c0 c1 c2 c3 c4 c5 p0 p1 p2 p3 p4 p5 q0 q1 q2 q3 q4 q5 la1 lb1 lc1 la2 lb2 lc2 b02 b2 b4
 have bd : Below w5.heap.size w5 w5.drew := (Below.refl _ _).drew
 have la5 := la4.later bd
 have lb5 := lb4.later bd
 have lc5 := lc4.later bd
 have b05 := below_trans b04 bd
 obtain ⟨-, ⟨c0, c1, c2⟩, -⟩ := id la5
 obtain ⟨-, ⟨c3, c4, c5⟩, -⟩ := id lb5
 clear la4 lb4 lc4 b04 bd
 go_wp2_with fail
 go_region_held3 (fun wq => (wq.cell? ⟨w.heap.size, 0, none⟩ = some (.bool sa) ∧ wq.cell? ⟨w.heap.size, 1, none⟩ = some (.slice ao ma ca) ∧ wq.cell? ⟨w.heap.size, 2, none⟩ = some (.int .i64 ae)) ∧ wq.cell? ⟨w.heap.size + 1, 0, none⟩ = some (.bool sb) ∧ wq.cell? ⟨w.heap.size + 1, 1, none⟩ = some (.slice bo mb cb) ∧ wq.cell? ⟨w.heap.size + 1, 2, none⟩ = some (.int .i64 be)) (go_keep) (first
  | (go_at_call 172; refine (digits_any sa ao ma ca ae _).mono ?_; rintro z w6 ⟨rfl, b6⟩; have la6 := la5.later b6; have lb6 := lb5.later b6; have lc6 := lc5.later b6; have b06 := below_trans b05 b6; obtain ⟨-, ⟨p0, p1, p2⟩, -⟩ := id la6; obtain ⟨-, ⟨p3, p4, p5⟩, -⟩ := id lb6; clear b05)
  | (go_at_call 177; refine (HSF.out w6 b06).mono ?_; rintro z w7 ⟨v7, rfl, o7, b7⟩; have la7 := la6.later b7; have lb7 := lb6.later b7; have lc7 := lc6.later b7; have b07 := below_trans b06 b7; obtain ⟨-, ⟨q0, q1, q2⟩, -⟩ := id la7; obtain ⟨-, ⟨q3, q4, q5⟩, -⟩ := id lb7)
  | (go_at_call 172; refine (digits_any sb bo mb cb be _).mono ?_; rintro z w8 ⟨rfl, b8⟩; have la8 := la7.later b8; have lb8 := lb7.later b8; have lc8 := lc7.later b8; have b08 := below_trans b07 b8; have r8 := (o7.later b8).rd; obtain ⟨-, ⟨t0, t1, t2⟩, -⟩ := id la8; obtain ⟨-, ⟨t3, t4, t5⟩, -⟩ := id lb8)
  | (go_at_call 178; refine (HOV.out _ w8 b08 r8).mono ?_; rintro z w9 ⟨vq, vr, rfl, oq, orr, b9⟩; have la9 := la8.later b9; have lb9 := lb8.later b9; have lc9 := lc8.later b9; have b09 := below_trans b08 b9; obtain ⟨-, ⟨x0, x1, x2⟩, -⟩ := id la9; obtain ⟨-, ⟨x3, x4, x5⟩, -⟩ := id lb9))
 have rq := oq.rd
 obtain ⟨ro, rc, hvr⟩ := orr.rd.shape
 subst hvr
 have hlt := lc9.1
 clear c0 c1 c2 c3 c4 c5 p0 p1 p2 p3 p4 p5 q0 q1 q2 q3 q4 q5 t0 t1 t2 t3 t4 t5 la5 lb5 lc5 la6 lb6 lc6 la7 lb7 lc7 la8 lb8 lc8 b06 b6 b07 b7 b08 b8 b9 o7 r8 oq orr HBA HSF HOV
 have hw3 : IntKind.i64.wrap (ae - be) = ae - be := IntWalk.i64_in _ ⟨by omega, by omega⟩
 have hw4 : IntKind.i64.wrap (ae - be - (sh : Int)) = ae - be - (sh : Int) := IntWalk.i64_in _ ⟨by omega, by omega⟩
 by_cases hM0 : 0 < M
 ·have hlen := hMz.2 hM0
  have HD : Hid (decide (0 < M) = true) := decide_eq_true hM0
  clear hMz hM0
  go_wp2_with fail
  refine (HEN.out _ true _ HD.out rq).mono ?_
  rintro z w10 ⟨vz, rfl, oz, b10⟩
  have lc10 := lc9.later b10
  have b010 := below_trans b09 b10
  obtain ⟨zo, zc, hvz⟩ := oz.rd.shape
  subst hvz
  obtain ⟨hl6, ⟨d0, d1, d2⟩, f0, f1, f2⟩ := id lc10
  clear x0 x1 x2 x3 x4 x5 b10 rq la9 lb9
  obtain ⟨-, ⟨g0, g1, g2⟩, -⟩ := loc_set lc10 (.bool zs) (.slice zo (Dg.dg 4294967296 zn).length zc) (.int .i64 ze)
  have o11 := oz.apart3 (b := w.heap.size + 1 + 1) hlt (.bool zs) (.slice zo (Dg.dg 4294967296 zn).length zc) (.int .i64 ze)
  have b11 := below_set3 b010 (show w.heap.size ≤ w.heap.size + 1 + 1 by omega) (.bool zs) (.slice zo (Dg.dg 4294967296 zn).length zc) (.int .i64 ze)
  go_wp2
  refine bodyPost_ret (v := .agg #[.bool zs, .slice zo (Dg.dg 4294967296 zn).length zc, .int .i64 ze]) (by simp [results, Tryz.results129, go_sem, g0, g1, g2]) rfl ?_
  exact ⟨_, rfl, o11.lower b09.size, b11⟩
 ·have hlen : ¬0 < (Dg.dg 4294967296 M).length := fun h => hM0 (hMz.1 h)
  have HD : Hid (decide (0 < M) = false) := decide_eq_false hM0
  clear hMz hM0
  go_wp2_with fail
  refine (HEN.out _ false _ HD.out rq).mono ?_
  rintro z w10 ⟨vz, rfl, oz, b10⟩
  have lc10 := lc9.later b10
  have b010 := below_trans b09 b10
  obtain ⟨zo, zc, hvz⟩ := oz.rd.shape
  subst hvz
  obtain ⟨hl6, ⟨d0, d1, d2⟩, f0, f1, f2⟩ := id lc10
  clear x0 x1 x2 x3 x4 x5 b10 rq la9 lb9
  obtain ⟨-, ⟨g0, g1, g2⟩, -⟩ := loc_set lc10 (.bool zs) (.slice zo (Dg.dg 4294967296 zn).length zc) (.int .i64 ze)
  have o11 := oz.apart3 (b := w.heap.size + 1 + 1) hlt (.bool zs) (.slice zo (Dg.dg 4294967296 zn).length zc) (.int .i64 ze)
  have b11 := below_set3 b010 (show w.heap.size ≤ w.heap.size + 1 + 1 by omega) (.bool zs) (.slice zo (Dg.dg 4294967296 zn).length zc) (.int .i64 ze)
  go_wp2
  refine bodyPost_ret (v := .agg #[.bool zs, .slice zo (Dg.dg 4294967296 zn).length zc, .int .i64 ze]) (by simp [results, Tryz.results129, go_sem, g0, g1, g2]) rfl ?_
  exact ⟨_, rfl, o11.lower b09.size, b11⟩
end Go.Proofs.YtnhackdjplppjaaGreatDoor

/-
  Texts laid together: As8, Ar8, As9, As10, Gr11.
-/
import Derived.Test.YtnhackdjplppjaaGreatDoorAc43
import Derived.Test.YtnhackdjplppjaaGreatDoorAc27
import Derived.Test.YtnhackdjplppjaaGreatDoorAc41
import Derived.Test.YtnhackdjplppjaaGreatDoorAc44
set_option maxRecDepth 100000
namespace Go.Proofs.YtnhackdjplppjaaGreatDoor
open Go.RowKit
theorem OpsV.off {w w' : World} {n : Int} {ps : List ByteArray} {g cap b : Nat} {ty : TypeId} {vs : List Value} (h : OpsV w n ps g cap) (bu : But b w w') (hl : LocE w b ty vs) (hu : ∀ x ∈ vs, ∀ k : Int, x ≠ .int .u32 k) (hg : g ≠ b) : OpsV w' n ps g cap :=
 ⟨h.fit, h.most, fun i p hp => by
  obtain ⟨so, sc, h1, h2⟩ := h.each i p hp
  exact ⟨so, sc, fun j v hj => by rw [bu.cell (by exact hg)]; exact h1 j v hj, bu.rd h2 (rd_offU h2 hl hu)⟩⟩
set_option maxHeartbeats 6400000 in
theorem add1_W (n wy fam R D L G cx cy c fl : Int) (gr gx gy gg : Bool) (x y t : Trip) (xo yo : Option Addr) (xc yc g cap : Nat) (w : World)
  (h0 : w.rangeAt g 0 [.int .i64 cx, .bool gx, .bool x.s, .slice xo (Dg.dg 4294967296 x.n).length xc, .int .i64 x.e]) (h1 : w.rangeAt g 5 [.int .i64 cy, .bool gy, .bool y.s, .slice yo (Dg.dg 4294967296 y.n).length yc, .int .i64 y.e])
  (HS : ∀ w1, Below w.heap.size w w1 → Calls Tryz.prog 55 #[.agg #[.int .i64 n, .int .i64 wy, .int .i64 fam, .int .i64 R, .int .i64 D, .int .i64 L, .int .i64 G, .bool gr], .agg #[.int .i64 cx, .bool gx, .bool x.s, .slice xo (Dg.dg 4294967296 x.n).length xc, .int .i64 x.e], .agg #[.int .i64 cy, .bool gy, .bool y.s, .slice yo (Dg.dg 4294967296 y.n).length yc, .int .i64 y.e]] w1 (OpRes2 w1 c gg t fl)) :
  Calls Tryz.prog 54 #[.agg #[.int .i64 n, .int .i64 wy, .int .i64 fam, .int .i64 R, .int .i64 D, .int .i64 L, .int .i64 G, .bool gr], .slice (some ⟨g, 0, none⟩) 2 cap] w (OpRes2 w c gg t fl) := by
 replace HS : Hid _ := HS
 have a1 := below_alloc w (.cells #[.int .i64 n, .int .i64 wy, .int .i64 fam, .int .i64 R, .int .i64 D, .int .i64 L, .int .i64 G, .bool gr] 93)
 have a2 := below_alloc (w.alloc (.cells #[.int .i64 n, .int .i64 wy, .int .i64 fam, .int .i64 R, .int .i64 D, .int .i64 L, .int .i64 G, .bool gr] 93)) (.cells #[.int .i64 0, .bool false, .bool false, .slice none 0 0, .int .i64 0] 98)
 have d0 := (locE_new w [.int .i64 n, .int .i64 wy, .int .i64 fam, .int .i64 R, .int .i64 D, .int .i64 L, .int .i64 G, .bool gr] 93).later a2
 have o0 := locE_new (w.alloc (.cells #[.int .i64 n, .int .i64 wy, .int .i64 fam, .int .i64 R, .int .i64 D, .int .i64 L, .int .i64 G, .bool gr] 93)) [.int .i64 0, .bool false, .bool false, .slice none 0 0, .int .i64 0] 98
 rw [World.size_alloc] at o0
 have b0 := below_trans a1 a2
 have hgl : g < w.heap.size := World.block_lt_of_cell? w _ (h0 0 _ rfl)
 have k0 := range_later h0 b0
 have k1 := range_later h1 b0
 clear a1 a2 h0 h1
 go_enter Tryz.func54, Tryz.ntmps54
 go_upto_region 1 with fail
 generalize (w.alloc (.cells #[.int .i64 n, .int .i64 wy, .int .i64 fam, .int .i64 R, .int .i64 D, .int .i64 L, .int .i64 G, .bool gr] 93)).alloc (.cells #[.int .i64 0, .bool false, .bool false, .slice none 0 0, .int .i64 0] 98) = W0 at d0 o0 b0 k0 k1 ⊢
 have bW : Below W0.heap.size W0 W0.drew := (Below.refl _ _).drew
 have d1 := d0.later bW
 have o1 := o0.later bW
 have b1 := below_trans b0 bW
 have r0 := range_later k0 bW
 have r1 := range_later k1 bW
 clear bW d0 o0 b0 k0 k1
 refine wp_region_held_drew (S := fun wq => wq.rangeAt w.heap.size 0 [.int .i64 n, .int .i64 wy, .int .i64 fam, .int .i64 R, .int .i64 D, .int .i64 L, .int .i64 G, .bool gr] ∧ wq.rangeAt g 0 [.int .i64 cx, .bool gx, .bool x.s, .slice xo (Dg.dg 4294967296 x.n).length xc, .int .i64 x.e] ∧ wq.rangeAt g 5 [.int .i64 cy, .bool gy, .bool y.s, .slice yo (Dg.dg 4294967296 y.n).length yc, .int .i64 y.e]) (by kernel_rfl) ⟨d1.range, r0, r1⟩ (fun hS0 => ?_)
 generalize W0.drew = WD at d1 o1 b1 r0 r1 hS0 ⊢
 refine wpAnyH_take (i := 0) (v := .agg #[.int .i64 n, .int .i64 wy, .int .i64 fam, .int .i64 R, .int .i64 D, .int .i64 L, .int .i64 G, .bool gr]) rfl (by kernel_rfl) (by kernel_rfl) (by kernel_rfl) (fun _ _ _ h => h) (Or.inl ⟨by kernel_rfl, fun w0 hw0 => xrow 93 (.tmp 2) rfl w.heap.size 0 (by kernel_rfl) _ _ hw0.1 Tryz.underlying93 rfl (by kernel_rfl)⟩) hS0 ?_
 refine wpAnyH_take (i := 1) (v := .slice (some ⟨g, 0, none⟩) 2 cap) rfl (by kernel_rfl) (by kernel_rfl) (by kernel_rfl) (fun _ _ _ h => h) (Or.inl ⟨by kernel_rfl, fun w0 _ => by kernel_rfl⟩) hS0 ?_
 refine wpAnyH_take (i := 2) (v := .pointer (some ⟨g, 0, none⟩)) rfl (by kernel_rfl) (by kernel_rfl) (by kernel_rfl) (fun _ _ _ h => h) (Or.inl ⟨by kernel_rfl, fun w0 _ => by kernel_rfl⟩) hS0 ?_
 refine wpAnyH_take (i := 3) (v := .agg #[.int .i64 cx, .bool gx, .bool x.s, .slice xo (Dg.dg 4294967296 x.n).length xc, .int .i64 x.e]) rfl (by kernel_rfl) (by kernel_rfl) (by kernel_rfl) (fun _ _ _ h => h) (Or.inl ⟨by kernel_rfl, fun w0 hw0 => xrow 98 (.tmp 8) rfl g 0 (by kernel_rfl) _ _ hw0.2.1 Tryz.underlying98 rfl (by kernel_rfl)⟩) hS0 ?_
 refine wpAnyH_take (i := 4) (v := .slice (some ⟨g, 0, none⟩) 2 cap) rfl (by kernel_rfl) (by kernel_rfl) (by kernel_rfl) (fun _ _ _ h => h) (Or.inl ⟨by kernel_rfl, fun w0 _ => by kernel_rfl⟩) hS0 ?_
 refine wpAnyH_take (i := 5) (v := .pointer (some ⟨g, 5, none⟩)) rfl (by kernel_rfl) (by kernel_rfl) (by kernel_rfl) (fun _ _ _ h => h) (Or.inl ⟨by kernel_rfl, fun w0 _ => by kernel_rfl⟩) hS0 ?_
 refine wpAnyH_take (i := 6) (v := .agg #[.int .i64 cy, .bool gy, .bool y.s, .slice yo (Dg.dg 4294967296 y.n).length yc, .int .i64 y.e]) rfl (by kernel_rfl) (by kernel_rfl) (by kernel_rfl) (fun _ _ _ h => h) (Or.inl ⟨by kernel_rfl, fun w0 hw0 => xrow 98 (.tmp 11) rfl g 5 (by kernel_rfl) _ _ hw0.2.2 Tryz.underlying98 rfl (by kernel_rfl)⟩) hS0 ?_
 refine wpAnyH_ready (rs := [7]) (by kernel_rfl) (by simp) ?_
 refine AllReadyH.cons rfl (fun K hK => ?_) AllReadyH.nil
 go_simp
 refine (HS.out _ b1).mono ?_
 rintro z w2 ⟨u, rfl, q2, b2⟩
 obtain ⟨ro, rc, hu⟩ := q2.shape
 subst hu
 have d2 := d1.later b2
 have o2 := o1.later b2
 have b02 := below_trans b1 b2
 have s0 := range_later r0 b2
 have s1 := range_later r1 b2
 refine hK.out _ _ ⟨d2.range, s0, s1⟩ (fun hS7 => ?_)
 clear hK K d1 o1 b1 r0 r1 b2 HS
 have bu : But (w.heap.size + 1) w2 (w2.setCells (w.heap.size + 1) 0 [.int .i64 c, .bool gg, .bool t.s, .slice ro (Dg.dg 4294967296 t.n).length rc, .int .i64 t.e]) := but_sets _ _ _ _
 have bR := bu.below b02 (by omega)
 have rR := bu.rd q2 (rd_offU q2 o2 (by simp))
 have hth : w2.there (w.heap.size + 1) 0 5 := there_of o2
 have hl := run_loadVar_mid (P := Tryz.prog) _ (w.heap.size + 1) 0 98 [.int .i64 c, .bool gg, .bool t.s, .slice ro (Dg.dg 4294967296 t.n).length rc, .int .i64 t.e] _ (World.rangeAt_setCells_same w2 (w.heap.size + 1) 0 [.int .i64 c, .bool gg, .bool t.s, .slice ro (Dg.dg 4294967296 t.n).length rc, .int .i64 t.e] hth) Tryz.underlying98 rfl (by kernel_rfl)
 have hg : g ≠ w.heap.size + 1 := by omega
 have HH : Hid (_ ∧ _ ∧ _) := ⟨hl, rR, bR⟩
 refine wpAnyH_take (i := 8) (v := .agg #[.int .i64 c, .bool gg, .bool t.s, .slice ro (Dg.dg 4294967296 t.n).length rc, .int .i64 t.e]) rfl (by kernel_rfl) (by kernel_rfl) (by kernel_rfl) (fun _ _ _ h => h) (Or.inl ⟨by kernel_rfl, fun w0 _ => by go_simp⟩) hS7 ?_
 refine wpAnyH_take (i := 9) (v := .int .i64 fl) rfl (by kernel_rfl) (by kernel_rfl) (by kernel_rfl) (fun _ _ _ h => h) (Or.inl ⟨by kernel_rfl, fun w0 _ => by go_simp⟩) hS7 ?_
 refine wpAnyH_ready (rs := [10]) (by kernel_rfl) (by simp) ?_
 refine AllReadyH.cons rfl (fun K hK => ?_) AllReadyH.nil
 rw [if_pos (by kernel_rfl)]
 refine wp_store_mid 98 (.tmp 4) (.tmp 14) rfl (w.heap.size + 1) 0 #[.int .i64 c, .bool gg, .bool t.s, .slice ro (Dg.dg 4294967296 t.n).length rc, .int .i64 t.e] (by kernel_rfl) (by kernel_rfl) hth (by kernel_rfl) (by simp [Value.oneCell']) ?_
 refine hK.out _ _ ⟨(bu.loc d2 (by omega)).range, World.rangeAt_setCells_apart s0 _ _ _ (.inl hg), World.rangeAt_setCells_apart s1 _ _ _ (.inl hg)⟩ (fun hS10 => ?_)
 clear hK K
 refine wpAnyH_take (i := 11) (v := .int .i64 fl) rfl (by kernel_rfl) (by kernel_rfl) (by kernel_rfl) (fun _ _ _ h => h) (Or.inl ⟨by kernel_rfl, fun w0 _ => by go_simp⟩) hS10 ?_
 refine wpAnyH_done (by kernel_rfl) ?_ _
 obtain ⟨hl, rR, bR⟩ := HH.out
 clear HH hS0 hS7 hS10 d2 o2 b02 s0 s1 bu hth q2
 change Exit.then _ _ _ _ (World.setCells w2 (w.heap.size + 1) 0 [.int .i64 c, .bool gg, .bool t.s, .slice ro (Dg.dg 4294967296 t.n).length rc, .int .i64 t.e])
 generalize World.setCells w2 (w.heap.size + 1) 0 [.int .i64 c, .bool gg, .bool t.s, .slice ro (Dg.dg 4294967296 t.n).length rc, .int .i64 t.e] = WE at hl rR bR ⊢
 simp only [Act.put, List.getElem_toArray, List.getElem_cons_succ, List.getElem_cons_zero, List.setIfInBounds_toArray, List.set_cons_zero, List.set_cons_succ]
 go_wp2
 exact bodyPost_ret (results_two Tryz.results54 rfl rfl hl) rfl ⟨_, rfl, rR, bR⟩
set_option maxHeartbeats 6400000 in
theorem reckon_ok (n R D L G fam way c fl f1 e1 : Int) (gr gg : Bool) (t : Trip) (F m : Nat) (ps : List ByteArray) (pb : Nat) (st : ByteArray) (w : World) (hw1 : 1 ≤ way) (hw2 : way ≤ 5) (hm : ps.length = m) (hm3 : m ≤ 3) (hm0 : 1 ≤ m) (hE : errL n ps = 0) (hN : ps.any (noNum n) = false) (hp : LocE w pb 9 (ps.map Value.string)) (hfn : ∀ args W, (callFunc F args).run Tryz.prog W = .ok (.enter F args) W)
  (HD : ∀ w1, Calls Tryz.prog 80 #[.int .i64 n] w1 fun z w' => z = .returned (.tuple #[.agg #[.int .i64 n, .int .i64 0, .int .i64 fam, .int .i64 R, .int .i64 D, .int .i64 L, .int .i64 G, .bool gr], .int .i64 0]) ∧ Below w1.heap.size w1 w')
  (HO : ∀ w1, Below w.heap.size w w1 → LocE w1 pb 9 (ps.map Value.string) → Calls Tryz.prog 81 #[.agg #[.int .i64 n, .int .i64 0, .int .i64 fam, .int .i64 R, .int .i64 D, .int .i64 L, .int .i64 G, .bool gr], .slice (some ⟨pb, 0, none⟩) m m] w1 (OpsRes w1 n ps))
  (HF : ∀ g cap w1, Below w.heap.size w w1 → OpsV w1 n ps g cap → Calls Tryz.prog F #[.agg #[.int .i64 n, .int .i64 way, .int .i64 fam, .int .i64 R, .int .i64 D, .int .i64 L, .int .i64 G, .bool gr], .slice (some ⟨g, 0, none⟩) m cap] w1 (OpRes2 w1 c gg t fl))
  (HA : ∀ ro rc w1, Below w.heap.size w w1 → Rd w1 .u32 (.slice ro (Dg.dg 4294967296 t.n).length rc) (Dg.dg 4294967296 t.n) → Calls Tryz.prog 107 #[.agg #[.int .i64 n, .int .i64 way, .int .i64 fam, .int .i64 R, .int .i64 D, .int .i64 L, .int .i64 G, .bool gr], .agg #[.int .i64 c, .bool gg, .bool t.s, .slice ro (Dg.dg 4294967296 t.n).length rc, .int .i64 t.e], .int .i64 fl] w1 fun z w' => z = .returned (.tuple #[.string st, .int .i64 f1, .int .i64 e1]) ∧ Below w1.heap.size w1 w') :
  Calls Tryz.prog 53 #[.int .i64 n, .int .i64 way, .func (.func F) #[] #[], .slice (some ⟨pb, 0, none⟩) m m] w fun z w' => z = .returned (.tuple #[.string st, .int .i64 f1, .int .i64 e1]) ∧ Below w.heap.size w w' := by
 replace HD : Hid _ := HD
 replace HO : Hid _ := HO
 replace HF : Hid _ := HF
 replace HA : Hid _ := HA
 have HFn : Hid _ := hfn
 clear hfn
 go_enter Tryz.func53, Tryz.ntmps53
 go_wp2_with fail
 refine (HD.out _).mono ?_
 rintro z w1 ⟨rfl, b1⟩
 have al := below_alloc w1 (.cells #[.int .i64 n, .int .i64 0, .int .i64 fam, .int .i64 R, .int .i64 D, .int .i64 L, .int .i64 G, .bool gr] 93)
 have d1 := locE_new w1 [.int .i64 n, .int .i64 0, .int .i64 fam, .int .i64 R, .int .i64 D, .int .i64 L, .int .i64 G, .bool gr] 93
 have p1 := (hp.later b1).later al
 have hlt : w.heap.size ≤ w1.heap.size := b1.size
 have b01 := below_trans b1 al
 clear b1 al hp HD
 go_upto_region 4 with fail
 generalize w1.alloc (.cells #[.int .i64 n, .int .i64 0, .int .i64 fam, .int .i64 R, .int .i64 D, .int .i64 L, .int .i64 G, .bool gr] 93) = W1 at d1 p1 b01 ⊢
 generalize w1.heap.size = PD at d1 hlt ⊢
 obtain ⟨x0, x1, x2, x3, x4, x5, x6, x7⟩ := d1.cs8
 go_wp2_with fail
 refine (HO.out _ b01 p1).mono ?_
 rintro z w2 hz
 have hz' := hz.resolve_right (fun h => h.1 hE)
 obtain ⟨-, v, cs, rfl, hown, hat, b2⟩ := hz'
 obtain ⟨g, cap, hv, hV⟩ := opsV_of (fun h => by subst h; simp at hm; omega) hown hat
 rw [hm] at hv
 subst hv
 have hgP : g ≠ PD := by
  have h1 := (World.ownsRow.lt hown g rfl).1
  have h2 := d1.lt
  omega
 have d2 := d1.later b2
 have b02 := below_trans b01 b2
 have HNN : Hid (∀ w1, OpsV w1 n ps g cap → Calls Tryz.prog 82 #[.slice (some ⟨g, 0, none⟩) m cap] w1 fun z w' => z = .returned (.bool false) ∧ Below w1.heap.size w1 w') := fun w1 h => by
  have := noNumbers_W n ps g cap w1 h (by omega)
  rw [hN, hm] at this
  exact this
 clear x0 x1 x2 x3 x4 x5 x6 x7 d1 p1 b01 b2 hz hown hat HO hE hN hm
 have c1 := d2.cell 1 rfl
 have f1' := d2.free 1
 have d3 : LocE (w2.setCell ⟨PD, 1, none⟩ (.int .i64 way)) PD 93 [.int .i64 n, .int .i64 way, .int .i64 fam, .int .i64 R, .int .i64 D, .int .i64 L, .int .i64 G, .bool gr] := d2.set 1 (.int .i64 way)
 have bu := but_set w2 PD 1 (.int .i64 way)
 have hV3 := hV.off bu d2 (by simp) hgP
 have b03 := bu.below b02 hlt
 go_upto_block 0 with fail
 generalize w2.setCell ⟨PD, 1, none⟩ (.int .i64 way) = W3 at d3 hV3 b03 ⊢
 clear c1 f1' bu d2 b02 hV
 go_wp2_with fail
 refine (HNN.out _ hV3).mono ?_
 rintro z w4 ⟨rfl, b4⟩
 have d4 := d3.later b4
 have hV4 := hV3.later b4
 have b04 := below_trans b03 b4
 clear d3 hV3 b03 b4 HNN
 go_upto_region 11 with fail
 have bW : Below w4.heap.size w4 w4.drew := (Below.refl _ _).drew
 have d5 := d4.later bW
 have hV5 := hV4.later bW
 have b05 := below_trans b04 bW
 clear bW d4 hV4 b04
 refine wp_region_held_drew (S := fun wq => wq.rangeAt PD 0 [.int .i64 n, .int .i64 way, .int .i64 fam, .int .i64 R, .int .i64 D, .int .i64 L, .int .i64 G, .bool gr]) (by kernel_rfl) d5.range (fun hS0 => ?_)
 generalize w4.drew = WD at d5 hV5 b05 hS0 ⊢
 refine wpAnyH_take (i := 0) (v := .agg #[.int .i64 n, .int .i64 way, .int .i64 fam, .int .i64 R, .int .i64 D, .int .i64 L, .int .i64 G, .bool gr]) rfl (by kernel_rfl) (by kernel_rfl) (by kernel_rfl) (fun _ _ _ h => h) (Or.inl ⟨by kernel_rfl, fun w0 hw0 => xrow 93 (.tmp 11) rfl PD 0 (by kernel_rfl) _ _ hw0 Tryz.underlying93 rfl (by kernel_rfl)⟩) hS0 ?_
 refine wpAnyH_take (i := 1) (v := .func (.func F) #[] #[]) rfl (by kernel_rfl) (by kernel_rfl) (by kernel_rfl) (fun _ _ _ h => h) (Or.inl ⟨by kernel_rfl, fun w0 _ => by kernel_rfl⟩) hS0 ?_
 refine wpAnyH_take (i := 2) (v := .agg #[.int .i64 n, .int .i64 way, .int .i64 fam, .int .i64 R, .int .i64 D, .int .i64 L, .int .i64 G, .bool gr]) rfl (by kernel_rfl) (by kernel_rfl) (by kernel_rfl) (fun _ _ _ h => h) (Or.inl ⟨by kernel_rfl, fun w0 hw0 => xrow 93 (.tmp 11) rfl PD 0 (by kernel_rfl) _ _ hw0 Tryz.underlying93 rfl (by kernel_rfl)⟩) hS0 ?_
 refine wpAnyH_take (i := 3) (v := .slice (some ⟨g, 0, none⟩) m cap) rfl (by kernel_rfl) (by kernel_rfl) (by kernel_rfl) (fun _ _ _ h => h) (Or.inl ⟨by kernel_rfl, fun w0 _ => by kernel_rfl⟩) hS0 ?_
 refine wpAnyH_ready (rs := [4]) (by kernel_rfl) (by simp) ?_
 refine AllReadyH.cons rfl (fun K hK => ?_) AllReadyH.nil
 have hfn := HFn.out
 go_simp
 refine (HF.out _ _ _ b05 hV5).mono ?_
 rintro z w6 ⟨u, rfl, q6, b6⟩
 obtain ⟨ro, rc, hu⟩ := q6.shape
 subst hu
 have d6 := d5.later b6
 have b06 := below_trans b05 b6
 refine hK.out _ _ d6.range (fun hS4 => ?_)
 clear hK K d5 hV5 b05 b6
 refine wpAnyH_take (i := 5) (v := .agg #[.int .i64 c, .bool gg, .bool t.s, .slice ro (Dg.dg 4294967296 t.n).length rc, .int .i64 t.e]) rfl (by kernel_rfl) (by kernel_rfl) (by kernel_rfl) (fun _ _ _ h => h) (Or.inl ⟨by kernel_rfl, fun w0 _ => by go_simp⟩) hS4 ?_
 refine wpAnyH_take (i := 6) (v := .int .i64 fl) rfl (by kernel_rfl) (by kernel_rfl) (by kernel_rfl) (fun _ _ _ h => h) (Or.inl ⟨by kernel_rfl, fun w0 _ => by go_simp⟩) hS4 ?_
 refine wpAnyH_ready (rs := [7]) (by kernel_rfl) (by simp) ?_
 refine AllReadyH.cons rfl (fun K hK => ?_) AllReadyH.nil
 go_simp
 refine (HA.out _ _ _ b06 q6).mono ?_
 rintro z w7 ⟨rfl, b7⟩
 have d7 := d6.later b7
 have b07 := below_trans b06 b7
 refine hK.out _ _ d7.range (fun hS7 => ?_)
 clear hK K d6 b06 b7 q6
 refine wpAnyH_take (i := 8) (v := .string st) rfl (by kernel_rfl) (by kernel_rfl) (by kernel_rfl) (fun _ _ _ h => h) (Or.inl ⟨by kernel_rfl, fun w0 _ => by go_simp⟩) hS7 ?_
 refine wpAnyH_take (i := 9) (v := .int .i64 f1) rfl (by kernel_rfl) (by kernel_rfl) (by kernel_rfl) (fun _ _ _ h => h) (Or.inl ⟨by kernel_rfl, fun w0 _ => by go_simp⟩) hS7 ?_
 refine wpAnyH_take (i := 10) (v := .int .i64 e1) rfl (by kernel_rfl) (by kernel_rfl) (by kernel_rfl) (fun _ _ _ h => h) (Or.inl ⟨by kernel_rfl, fun w0 _ => by go_simp⟩) hS7 ?_
 refine wpAnyH_take (i := 11) (v := .string st) rfl (by kernel_rfl) (by kernel_rfl) (by kernel_rfl) (fun _ _ _ h => h) (Or.inl ⟨by kernel_rfl, fun w0 _ => by go_simp⟩) hS7 ?_
 refine wpAnyH_take (i := 12) (v := .int .i64 f1) rfl (by kernel_rfl) (by kernel_rfl) (by kernel_rfl) (fun _ _ _ h => h) (Or.inl ⟨by kernel_rfl, fun w0 _ => by go_simp⟩) hS7 ?_
 refine wpAnyH_take (i := 13) (v := .int .i64 e1) rfl (by kernel_rfl) (by kernel_rfl) (by kernel_rfl) (fun _ _ _ h => h) (Or.inl ⟨by kernel_rfl, fun w0 _ => by go_simp⟩) hS7 ?_
 simp only [Act.put, List.getElem_toArray, List.getElem_cons_succ, List.getElem_cons_zero, List.setIfInBounds_toArray, List.set_cons_zero, List.set_cons_succ]
 refine wpAnyH_done (by kernel_rfl) ?_ _
 go_wp2
 go_ret3
 exact ⟨rfl, b07⟩
end Go.Proofs.YtnhackdjplppjaaGreatDoor
namespace Go.Proofs.YtnhackdjplppjaaGreatDoor
open Go.RowKit
theorem cgrid_flat (k : Nat) (hk : 1 ≤ k ∧ k ≤ 8) (w : World) : Calls Tryz.prog 50 #[.int .i64 (k : Int)] w fun z w' => z = .returned (.tuple #[.agg #[.int .i64 (rdN k : Int), .int .i64 (dgN k : Int), .int .i64 (lsI k), .int .i64 (gsI k), .bool (decide (k ≤ 3))], .int .i64 0]) ∧ Below w.heap.size w w' := by
 rcases eight hk with rfl | rfl | rfl | rfl | rfl | rfl | rfl | rfl
 ·exact cgrid_1 w
 ·exact cgrid_2 w
 ·exact cgrid_3 w
 ·exact cgrid_4 w
 ·exact cgrid_5 w
 ·exact cgrid_6 w
 ·exact cgrid_7 w
 ·exact cgrid_8 w
theorem refT_other {k : Nat} (hk : 1 ≤ k ∧ k ≤ 8) {ng : Bool} {E F : Nat} (hc : clsN k ng E F ≠ 2) : refT k ng E F = ⟨false, 0, 0⟩ := by
 by_cases h1 : clsN k ng E F = 1
 ·exact refT_zero hk h1
 have h2 : 2 ^ exN k = onesN k + 1 := by
  rcases eight hk with rfl | rfl | rfl | rfl | rfl | rfl | rfl | rfl <;> decide
 have h63 : k = 3 → 2 ^ (dgN k - 1) = 2 ^ 63 := fun h => by subst h; rfl
 unfold clsN at hc h1
 unfold refT
 by_cases h3 : k ≤ 3
 ·rw [if_pos h3] at hc h1
  by_cases he : E = 0
  ·rw [if_pos he] at hc h1
   by_cases hf : F = 0
   ·rw [if_pos hf] at h1
    exact absurd rfl h1
   ·rw [if_neg hf] at hc
    exact absurd rfl hc
  ·rw [if_neg he] at hc
   by_cases ho : E = onesN k
   ·by_cases h4 : k = 3
    ·rw [if_pos h4, if_pos (.inl (by omega))]
    ·rw [if_neg h4, if_pos (by omega), if_pos (by omega)]
   ·rw [if_neg ho] at hc
    by_cases h4 : k = 3 ∧ F < 2 ^ 63
    ·rw [if_pos h4.1, if_pos (.inr ⟨by omega, by rw [h63 h4.1]; exact h4.2⟩)]
    ·rw [if_neg h4] at hc
     exact absurd rfl hc
 ·rw [if_neg h3] at hc h1
  rw [if_neg (show ¬ k = 3 by omega), if_neg (show ¬ k ≤ 2 by omega)]
  by_cases h5 : k ≤ 5
  ·rw [if_pos h5] at hc h1
   by_cases hf : F = 0
   ·rw [if_pos hf] at h1
    exact absurd rfl h1
   ·rw [if_neg hf] at hc
    exact absurd rfl hc
  ·rw [if_neg h5] at hc ⊢
   by_cases he : E = 0
   ·rw [if_pos he]
   ·rw [if_neg he] at hc
    exact absurd rfl hc
theorem opnum_is {k : Nat} (hk : 1 ≤ k ∧ k ≤ 8) (s : ByteArray) :
  dbothR (placeC (Dg.dg 4294967296 (valM k (fldN k s) (fldE k s) (fldF k s))) (valP k (fldN k s) (fldE k s) (fldF k s)) (rdN k : Int) (dgN k : Int) (lsI k) (gsI k)) ⟨valG k (fldN k s) (fldE k s) (fldF k s), Dg.vl 4294967296 (Dg.dg 4294967296 (valM k (fldN k s) (fldE k s) (fldF k s))), (widthN (rdN k : Int) : Int) * valP k (fldN k s) (fldE k s) (fldF k s)⟩ = (nxT k s, 0) := by
 by_cases hc : clsN k (fldN k s) (fldE k s) (fldF k s) = 2
 ·exact num_is hk s (.inr hc)
 ·have hgr := (fmt_fit hk).2.2.2.2.2.2.2.2.2.2.2
  have hM : valM k (fldN k s) (fldE k s) (fldF k s) = 0 := if_neg hc
  have hP : valP k (fldN k s) (fldE k s) (fldF k s) = 0 := if_neg hc
  have hnil : Dg.dg 4294967296 0 = [] := (Dg.dg_nil_iff _ _ (by omega)).2 rfl
  rw [hM, hP, hnil, placeC_fine (by decide) hgr (by decide)]
  unfold nxT
  rw [refT_other hk hc]
  exact shortT_nil _ _
theorem wread_any (n : Int) (s : ByteArray) (w : World) (hT : Tab w) : Calls Tryz.prog 137 #[.int .i64 n, .string s] w (WRes w ((decC n s : Nat) : Int) (decG n s) (decM n s) (decP n s) (opT n s) (patC n s)) := by
 have HD := fun w1 => decode_any n s w1
 by_cases hp : patC n s = 0
 ·have hf : famC n ≠ 0 := fun hf => by
   unfold patC at hp
   rw [if_pos hf] at hp
   omega
  obtain ⟨k1, k2, k3⟩ := famC_in hf
  obtain ⟨k, rfl⟩ : ∃ k : Nat, n = (k : Int) := ⟨n.toNat, k3.symm⟩
  rw [Int.toNat_natCast] at k1 k2
  have hk : 1 ≤ k ∧ k ≤ 8 := ⟨k1, k2⟩
  have hG : decG (k : Int) s = valG k (fldN k s) (fldE k s) (fldF k s) := by
   unfold decG
   rw [if_pos hp, Int.toNat_natCast]
  have hM : decM (k : Int) s = valM k (fldN k s) (fldE k s) (fldF k s) := by
   unfold decM
   rw [if_pos hp, Int.toNat_natCast]
  have hP : decP (k : Int) s = valP k (fldN k s) (fldE k s) (fldF k s) := by
   unfold decP
   rw [if_pos hp, Int.toNat_natCast]
  have hO : opT (k : Int) s = nxT k s := by
   unfold opT
   rw [if_pos hp, Int.toNat_natCast]
  rw [hp] at HD ⊢
  rw [hO]
  refine wread_W (k : Int) _ _ _ _ _ _ _ _ _ (nxT k s) s w (fun w1 => cgrid_flat k hk w1) HD (fun vo vc w1 b r => ?_)
  have hn := opnum_is hk s
  have hN := fun w2 (b2 : Below w1.heap.size w1 w2) => gNumber_any (rdN k : Int) (dgN k : Int) (lsI k) (gsI k) (decide (k ≤ 3)) (decG (k : Int) s) vo vc _ (decP (k : Int) s) false false false w2 (r.later b2) (Dg.small_dg 4294967296 _ (by omega)) (hT.later (below_trans b b2))
  rw [hG, hM, hP] at hN ⊢
  rw [hn] at hN
  exact wnumber_W _ _ _ _ _ _ 0 _ _ vo _ vc (nxT k s) w1 hN
 ·have hC : decC n s = 0 := if_neg hp
  have hG : decG n s = false := if_neg hp
  have hM : decM n s = 0 := if_neg hp
  have hP : decP n s = 0 := if_neg hp
  have hO : opT n s = ⟨false, 0, 0⟩ := if_neg hp
  rw [hC, hG, hM, hP, hO]
  by_cases hf : famC n = 0
  ·have h6 : patC n s = 6 := by
    unfold patC
    rw [if_pos hf]
   rw [h6]
   exact wrd1 n 6 (by decide) s w (fun w1 => cgrid_none n w1 hf)
  ·obtain ⟨k1, k2, k3⟩ := famC_in hf
   obtain ⟨k, rfl⟩ : ∃ k : Nat, n = (k : Int) := ⟨n.toNat, k3.symm⟩
   rw [Int.toNat_natCast] at k1 k2
   exact wrd2 (k : Int) _ hp _ _ _ _ _ _ _ _ _ s w (fun w1 => cgrid_flat k ⟨k1, k2⟩ w1) HD
theorem deskOf_any (k : Nat) (hk : 1 ≤ k ∧ k ≤ 8) (w : World) : Calls Tryz.prog 80 #[.int .i64 (k : Int)] w fun z w' => z = .returned (.tuple #[.agg #[.int .i64 (k : Int), .int .i64 0, .int .i64 (famC (k : Int)), .int .i64 (rdN k : Int), .int .i64 (dgN k : Int), .int .i64 (lsI k), .int .i64 (gsI k), .bool (decide (k ≤ 3))], .int .i64 0]) ∧ Below w.heap.size w w' :=
 deskOf_W (k : Int) _ _ _ _ _ _ w (fun w1 => cgrid_flat k hk w1) (fun w1 => family_any (k : Int) w1)
end Go.Proofs.YtnhackdjplppjaaGreatDoor
namespace Go.Proofs.YtnhackdjplppjaaGreatDoor
open Go.RowKit
set_option maxHeartbeats 3200000 in
theorem add_W (n way f1 e1 : Int) (a b st : ByteArray) (w : World)
  (HR : ∀ pb w1, Below w.heap.size w w1 → LocE w1 pb 9 [.string a, .string b] → Calls Tryz.prog 53 #[.int .i64 n, .int .i64 way, .func (.func 54) #[] #[], .slice (some ⟨pb, 0, none⟩) 2 2] w1 fun z w' => z = .returned (.tuple #[.string st, .int .i64 f1, .int .i64 e1]) ∧ Below w1.heap.size w1 w') :
  Calls Tryz.prog 17 #[.int .i64 n, .string a, .string b, .int .i64 way] w fun z w' => z = .returned (.tuple #[.string st, .int .i64 f1, .int .i64 e1]) ∧ Below w.heap.size w w' := by
 replace HR : Hid _ := HR
 have al := below_alloc w (.cells #[.string a, .string b] 9)
 have ln := locE_new w [.string a, .string b] 9
 go_enter Tryz.func17, Tryz.ntmps17
 go_wp2_with fail
 refine (HR.out _ _ al ln).mono ?_
 rintro z w1 ⟨rfl, b1⟩
 have b2 := below_trans al b1
 go_wp2
 go_ret3
 exact ⟨rfl, b2⟩
def patOne : ByteArray := strOf [63, 128, 0, 0]
def patTwo : ByteArray := strOf [64, 0, 0, 0]
theorem patOne_ok : patC 1 patOne = 0 ∧ decC 1 patOne = 2 ∧ decG 1 patOne = false ∧ opT 1 patOne = ⟨false, 1, 0⟩ := by
 refine ⟨?_, ?_, ?_, ?_⟩ <;> kernel_rfl
theorem one_plus : plusT ⟨false, 1, 0⟩ ⟨false, 1, 0⟩ = ⟨false, 2, 0⟩ := by kernel_rfl
theorem two_round : roundC [2] [1] 0 2 24 (-149) 104 1 = 0 ∧ roundP [2] [1] 0 2 24 (-149) 104 true false 1 = ⟨false, 8388608, -22, true, false, false⟩ := by
 refine ⟨?_, ?_⟩ <;> kernel_rfl
theorem two_enc : encE 1 2 false [8388608] (-22) = 0 ∧ encS 1 2 false [8388608] (-22) = patTwo := by
 refine ⟨?_, ?_⟩ <;> kernel_rfl
end Go.Proofs.YtnhackdjplppjaaGreatDoor
namespace Go.Proofs.YtnhackdjplppjaaGreatDoor
open Go.RowKit
set_option maxHeartbeats 3200000 in
theorem begun_sum (w : World) (g cap : Nat) (h : OpsV w 1 [patOne, patOne] g cap) :
  Calls Tryz.prog 54 #[.agg #[.int .i64 1, .int .i64 1, .int .i64 1, .int .i64 2, .int .i64 24, .int .i64 (-149), .int .i64 104, .bool true], .slice (some ⟨g, 0, none⟩) 2 cap] w (OpRes2 w 2 false ⟨false, 2, 0⟩ 0) := by
 obtain ⟨o1, o2, o3, o4⟩ := patOne_ok
 obtain ⟨xo, xc, hx, rx⟩ := h.each 0 patOne rfl
 obtain ⟨yo, yc, hy, ry⟩ := h.each 1 patOne rfl
 unfold opC at hx hy
 rw [o2, o3, o4] at hx hy
 rw [o4] at rx ry
 have hs := fun w1 (b : Below w.heap.size w w1) => dsum_num 1 1 1 2 24 (-149) 104 2 2 true false false ⟨false, 1, 0⟩ ⟨false, 1, 0⟩ xo yo xc yc false w1 rfl rfl rfl (fun w2 b2 => dplus_any _ _ ⟨false, 1, 0⟩ ⟨false, 1, 0⟩ w2 ⟨_, rfl, (rx.later b).later b2⟩ ⟨_, rfl, (ry.later b).later b2⟩ (by decide) (by decide) (by decide) (by decide) (by decide) (by decide))
 rw [one_plus, show numC ⟨false, 2, 0⟩ = 2 from rfl, show numG ⟨false, 2, 0⟩ false = false from rfl, show numT ⟨false, 2, 0⟩ = ⟨false, 2, 0⟩ from rfl] at hs
 exact add1_W 1 1 1 2 24 (-149) 104 2 2 2 0 true false false false ⟨false, 1, 0⟩ ⟨false, 1, 0⟩ ⟨false, 2, 0⟩ xo yo xc yc g cap w hx hy hs
set_option maxHeartbeats 3200000 in
theorem begun_answer (w : World) (ro : Option Addr) (rc : Nat) (hr : Rd w .u32 (.slice ro (Dg.dg 4294967296 2).length rc) (Dg.dg 4294967296 2)) (hT : Tab w) :
  Calls Tryz.prog 107 #[.agg #[.int .i64 1, .int .i64 1, .int .i64 1, .int .i64 2, .int .i64 24, .int .i64 (-149), .int .i64 104, .bool true], .agg #[.int .i64 2, .bool false, .bool false, .slice ro (Dg.dg 4294967296 2).length rc, .int .i64 0], .int .i64 0] w fun z w' => z = .returned (.tuple #[.string patTwo, .int .i64 0, .int .i64 0]) ∧ Below w.heap.size w w' := by
 refine answer_num 1 1 1 2 24 (-149) 104 0 true false ⟨false, 2, 0⟩ ro rc false 2 1 0 false 8388608 (-22) true false false 2 false 8388608 (-22) 0 0 patTwo 0 0 w (by kernel_rfl) ?_ ?_ ?_ ?_
 ·intro w1 b1
  refine ratioOf_W ⟨false, 2, 0⟩ ⟨false, 2, 0⟩ ro rc 0 0 2 1 w1 rfl ?_ (fun h => absurd h (by decide)) (fun _ => ⟨rfl, rfl, ?_⟩)
  ·intro w2 b2
   exact (kept_short ⟨false, 2, 0⟩ ro rc w2 ((hr.later b1).later b2) (by decide) (by decide)).mono (fun z w' h => ⟨_, h.1, ((hr.later b1).later b2).later h.2, h.2⟩)
  ·intro q w2 hq
   have := shifted_any (.slice (some ⟨q, 0, none⟩) 1 1) [1] 0 w2 (rd_one hq) (fun i => by
    match i with
    | 0 => decide
    | i + 1 => simp) (by simp) (by decide) (by decide)
   rw [show shN (Dg.vl 4294967296 [1]) 0 = 1 from rfl] at this
   exact this
 ·intro no nc mo mc w1 b1 h1 h2
  have := gRound_any false no nc [2] mo mc [1] 0 2 24 (-149) 104 true 1 w1 h1 h2 (fun i => by
    match i with
    | 0 => decide
    | i + 1 => simp) (fun i => by
    match i with
    | 0 => decide
    | i + 1 => simp)
  rw [two_round.1, two_round.2] at this
  exact this.mono (fun z w' h => by
   obtain ⟨v, rfl, own, b2⟩ := h
   obtain ⟨po, pc, hv⟩ := own.rd.shape
   subst hv
   exact ⟨po, pc, rfl, own.rd, b2⟩)
 ·intro po pc w1 b1 h1
  exact settle_in 1 1 1 2 24 (-149) 104 (-22) true false true false po _ pc 8388608 w1 rfl h1 (fun h => by cases h) 2 0 rfl rfl
 ·intro vo vc w1 b1 h1
  have := dencode_W 1 1 1 2 24 (-149) 104 2 (-22) 0 0 true false vo (Dg.dg 4294967296 8388608).length vc patTwo w1 (fun w2 b2 => by
   have := encode_any 1 2 false vo vc [8388608] (-22) w2 (h1.later b2) (fun i => by
    match i with
    | 0 => decide
    | i + 1 => simp) ((hT.later b1).later b2)
   rw [two_enc.1, two_enc.2] at this
   exact this)
  rw [if_pos rfl] at this
  exact this
set_option maxHeartbeats 3200000 in
theorem begun_add (w : World) (hT : Tab w) :
  Calls Tryz.prog 17 #[.int .i64 1, .string patOne, .string patOne, .int .i64 1] w fun z w' => z = .returned (.tuple #[.string patTwo, .int .i64 0, .int .i64 0]) ∧ Below w.heap.size w w' := by
 obtain ⟨o1, o2, o3, o4⟩ := patOne_ok
 refine add_W 1 1 0 0 patOne patOne patTwo w (fun pb w1 b1 hl => ?_)
 refine reckon_ok 1 2 24 (-149) 104 1 1 2 0 0 0 true false ⟨false, 2, 0⟩ _ 2 [patOne, patOne] pb patTwo w1 (by decide) (by decide) rfl (by decide) (by decide) (by unfold errL errL errL; rw [if_pos o1, if_pos o1]) (by simp [noNum, o2]) hl (fun args W => by kernel_rfl) (fun w2 => deskOf_any 1 (by decide) w2) (fun w2 b2 h2 => ?_) (fun g cap w2 _ hV => begun_sum w2 g cap hV) (fun ro rc w2 b2 h2 => begun_answer w2 ro rc h2 ((hT.later b1).later b2))
 exact operands_W 1 0 _ _ _ _ _ _ [patOne, patOne] pb w2 h2 (by simp) (fun p w3 b3 => wread_any 1 p w3 (((hT.later b1).later b2).later b3))
theorem made_run2 {P : Program} (W : World) (e src dst : TypeId) (zs : List Nat) (hs : P.underlying src = some (.slice e)) (he : P.underlying e = some (.int .u8)) (hd : P.underlying dst = some .string) (hm : zs.length ≤ maxLen) :
  (convert src dst (.slice (some ⟨W.heap.size, 0, none⟩) zs.length zs.length)).run P (W.alloc (.cells (zs.map (fun n : Nat => Value.int .u8 (n : Int))).toArray e)) = .ok (.string (strOf zs)) (W.alloc (.cells (zs.map (fun n : Nat => Value.int .u8 (n : Int))).toArray e)) :=
 convert_bytes src dst hs he hd (own_of_heap (base := W.heap.size) (heap_alloc_new _ _) (Nat.le_refl _) hm)
set_option maxHeartbeats 3200000 in
theorem arithBegun_any (w : World) (hT : Tab w) : Calls Tryz.prog 20 #[] w fun z w' => z = .returned (.bool true) ∧ Below w.heap.size w w' := by
 have hcA : ∀ W : World, (convert 110 9 (.slice (some ⟨W.heap.size, 0, none⟩) 4 4)).run Tryz.prog (W.alloc (.cells #[.int .u8 63, .int .u8 128, .int .u8 0, .int .u8 0] 5)) = .ok (.string patOne) (W.alloc (.cells #[.int .u8 63, .int .u8 128, .int .u8 0, .int .u8 0] 5)) := fun W => made_run2 W 5 110 9 [63, 128, 0, 0] Tryz.underlying110 Tryz.underlying5 Tryz.underlying9 (by unfold maxLen; simp)
 have hcB : ∀ W : World, (convert 110 9 (.slice (some ⟨W.heap.size, 0, none⟩) 4 4)).run Tryz.prog (W.alloc (.cells #[.int .u8 64, .int .u8 0, .int .u8 0, .int .u8 0] 5)) = .ok (.string patTwo) (W.alloc (.cells #[.int .u8 64, .int .u8 0, .int .u8 0, .int .u8 0] 5)) := fun W => made_run2 W 5 110 9 [64, 0, 0, 0] Tryz.underlying110 Tryz.underlying5 Tryz.underlying9 (by unfold maxLen; simp)
 have HA : Hid (∀ w1, Below w.heap.size w w1 → Calls Tryz.prog 17 #[.int .i64 1, .string patOne, .string patOne, .int .i64 1] w1 fun z w' => z = .returned (.tuple #[.string patTwo, .int .i64 0, .int .i64 0]) ∧ Below w1.heap.size w1 w') := fun w1 b => begun_add w1 (hT.later b)
 generalize patOne = pA at *
 generalize patTwo = pB at *
 have b1 := below_alloc w (.cells #[.int .u8 63, .int .u8 128, .int .u8 0, .int .u8 0] 5)
 clear hT
 go_enter Tryz.func20, Tryz.ntmps20
 go_wp2_with fail
 refine (HA.out _ b1).mono ?_
 rintro z w2 ⟨rfl, b2⟩
 have b02 := below_trans b1 b2
 have b3 := below_trans b02 (below_alloc w2 (.cells #[.int .u8 64, .int .u8 0, .int .u8 0, .int .u8 0] 5))
 clear b1 b2
 go_wp2
 go_ret
 exact ⟨rfl, b3⟩
end Go.Proofs.YtnhackdjplppjaaGreatDoor
namespace Go.Proofs.YtnhackdjplppjaaGreatDoor
open Go.RowKit
theorem refIsWay_any (way : Int) (w : World) : Calls Tryz.prog 37 #[.int .i64 way] w fun z w' => z = .returned (.bool (isWay way)) ∧ w' = w := by
 unfold isWay
 by_cases h : 1 ≤ way
 ·go_enter Tryz.func37, Tryz.ntmps37
  go_wp2
  go_ret
  simp [h]
 ·go_enter Tryz.func37, Tryz.ntmps37
  go_wp2
  go_ret
  simp
  omega
end Go.Proofs.YtnhackdjplppjaaGreatDoor

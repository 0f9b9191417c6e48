/-
  Texts laid together: Gv3.
-/
import Derived.Test.YtiiphandhpilgaaGreatDoorNb21
set_option maxRecDepth 100000
namespace Go.Proofs.YtiiphandhpilgaaGreatDoor
open Go.RowKit
def SORes (w : World) (t : Trip) (ok : Bool) (e : Ending) (w' : World) : Prop :=
 ∃ s, e = .returned (.tuple #[.agg #[.bool t.s, s, .int .i64 t.e], .bool ok]) ∧ Rd w' .i64 s (Dg.dg 65536 t.n) ∧ Far w.heap.size s ∧ Below w.heap.size w w'
theorem far_off {B b : Nat} {v : Value} {zs : List Nat} (h : Far B v) (hb : b < B) : OffB b v zs := fun _ a n c hv => by
 have := h a n c hv
 omega
theorem dg_one : Dg.dg 65536 1 = [1] := by decide
theorem norm_one : Dg.Norm [1] := by rw [← dg_one]; exact Dg.norm_dg _ _ (by omega)
theorem z3_zero : ∀ x ∈ ([.bool false, .slice none 0 0, .int .i64 0] : List Value), ∀ n : Int, n ≠ 0 → x ≠ .int .i64 n := by simp; intro n hn h; exact hn h.symm
set_option maxHeartbeats 12800000 in
theorem stepOfW (R D L G : Int) (gr s : Bool) (ao : Option Addr) (la ca : Nat) (e wd bl a1 a2 kk k le : Int) (cs : Bool) (cn : Nat) (ce : Int) (fs : Bool) (fn : Nat) (fe : Int) (ic fi : Bool) (ts : Bool) (tn : Nat) (te : Int) (ok : Bool) (w : World)
  (_hne : (wd == 0) = false) (hne2 : ¬wd = 0)
  (U1 : IntKind.i64.wrap (wd * L) = wd * L) (U2 : IntKind.i64.wrap (L + D) = L + D) (U3 : IntKind.i64.wrap (L + D - 1) = L + D - 1) (UX : IntKind.i64.wrap (wd * (L + D - 1)) = wd * (L + D - 1)) (U4 : IntKind.i64.wrap (e + bl) = e + bl) (U5 : IntKind.i64.wrap (e + bl - 1) = e + bl - 1) (U6 : IntKind.i64.wrap (e + bl - 1 + 80000) = e + bl - 1 + 80000)
  (Q1 : (e + bl - 1 + 80000).tdiv wd = a1) (Q2 : (80000 : Int).tdiv wd = a2) (U7 : IntKind.i64.wrap a1 = a1) (U8 : IntKind.i64.wrap a2 = a2) (U9 : IntKind.i64.wrap (a1 - a2) = a1 - a2) (UA : IntKind.i64.wrap (a1 - a2 - D) = a1 - a2 - D) (UB : IntKind.i64.wrap (a1 - a2 - D + 1) = kk)
  (M : max L kk = k) (UK : IntKind.i64.wrap (wd * k) = wd * k) (UM : IntKind.i64.wrap (k - 1) = k - 1) (UN : IntKind.i64.wrap (wd * (k - 1)) = wd * (k - 1))
  (E1 : gr = true → le = wd * L) (E2 : gr = false → le = wd * (L + D - 1))
  (R0 : la = 0 → false = ts ∧ 1 = tn ∧ le = te ∧ true = ok)
  (R1 : ¬la = 0 → s = false → cs = ts ∧ cn = tn ∧ ce = te ∧ ic = ok)
  (R2 : ¬la = 0 → s = true → fi = true → fs = ts ∧ fn = tn ∧ fe = te ∧ true = ok)
  (R3 : ¬la = 0 → s = true → fi = false → ic = true → cs = ts ∧ cn = tn ∧ ce = te ∧ true = ok)
  (R4 : ¬la = 0 → s = true → fi = false → ic = false → false = ts ∧ 0 = tn ∧ 0 = te ∧ true = ok)
  (HWI : ∀ w1, Calls Tryz.prog 27 #[.agg #[.int .i64 R, .int .i64 D, .int .i64 L, .int .i64 G, .bool gr]] w1 fun z w' => z = .returned (.int .i64 wd) ∧ Below w1.heap.size w1 w')
  (HLN : ∀ w1, Below w.heap.size w w1 → Calls Tryz.prog 28 #[.slice ao la ca] w1 fun z w' => z = .returned (.int .i64 bl) ∧ Below w1.heap.size w1 w')
  (HP1 : ¬la = 0 → ∀ o c w1, Below w.heap.size w w1 → Rd w1 .i64 (.slice o 1 c) [1] → Calls Tryz.prog 47 #[.agg #[.bool s, .slice ao la ca, .int .i64 e], .agg #[.bool false, .slice o 1 c, .int .i64 (wd * k)]] w1 (RDResF w1 ⟨cs, cn, ce⟩))
  (HP2 : ¬la = 0 → s = true → ∀ o c w1, Below w.heap.size w w1 → Rd w1 .i64 (.slice o 1 c) [1] → Calls Tryz.prog 47 #[.agg #[.bool s, .slice ao la ca, .int .i64 e], .agg #[.bool false, .slice o 1 c, .int .i64 (wd * (k - 1))]] w1 (RDResF w1 ⟨fs, fn, fe⟩))
  (HI1 : ¬la = 0 → ∀ co cc w1, Rd w1 .i64 (.slice co (Dg.dg 65536 cn).length cc) (Dg.dg 65536 cn) → Calls Tryz.prog 14 #[.agg #[.bool cs, .slice co (Dg.dg 65536 cn).length cc, .int .i64 ce], .agg #[.int .i64 R, .int .i64 D, .int .i64 L, .int .i64 G, .bool gr]] w1 fun z w' => z = .returned (.bool ic) ∧ Below w1.heap.size w1 w')
  (HI2 : ¬la = 0 → s = true → ∀ fo fc w1, Rd w1 .i64 (.slice fo (Dg.dg 65536 fn).length fc) (Dg.dg 65536 fn) → Calls Tryz.prog 14 #[.agg #[.bool fs, .slice fo (Dg.dg 65536 fn).length fc, .int .i64 fe], .agg #[.int .i64 R, .int .i64 D, .int .i64 L, .int .i64 G, .bool gr]] w1 fun z w' => z = .returned (.bool fi) ∧ Below w1.heap.size w1 w')
  (HC : ¬la = 0 → s = true → ∀ fo fc w1, Below w.heap.size w w1 → Rd w1 .i64 (.slice fo (Dg.dg 65536 fn).length fc) (Dg.dg 65536 fn) → Calls Tryz.prog 48 #[.agg #[.bool s, .slice ao la ca, .int .i64 e], .agg #[.bool fs, .slice fo (Dg.dg 65536 fn).length fc, .int .i64 fe]] w1 fun z w' => z = .returned (.int .i64 (-1)) ∧ Below w1.heap.size w1 w') :
  Calls Tryz.prog 16 #[.agg #[.bool s, .slice ao la ca, .int .i64 e], .agg #[.int .i64 R, .int .i64 D, .int .i64 L, .int .i64 G, .bool gr]] w (SORes w ⟨ts, tn, te⟩ ok) := by
 replace E1 : Hid _ := E1
 replace E2 : Hid _ := E2
 replace R0 : Hid _ := R0
 replace R1 : Hid _ := R1
 replace R2 : Hid _ := R2
 replace R3 : Hid _ := R3
 replace R4 : Hid _ := R4
 replace HWI : Hid _ := HWI
 replace HLN : Hid _ := HLN
 replace HP1 : Hid _ := HP1
 replace HP2 : Hid _ := HP2
 replace HI1 : Hid _ := HI1
 replace HI2 : Hid _ := HI2
 replace HC : Hid _ := HC
 have b1 := below_trans (below_trans (below_alloc w (.cells #[.bool s, .slice ao la ca, .int .i64 e] 31)) (below_alloc _ (.cells #[.int .i64 R, .int .i64 D, .int .i64 L, .int .i64 G, .bool gr] 42))) (below_alloc _ (.cells #[.bool false, .slice none 0 0, .int .i64 0] 31))
 have q1 := ((locE_new w [.bool s, .slice ao la ca, .int .i64 e] 31).later (below_alloc _ (.cells #[.int .i64 R, .int .i64 D, .int .i64 L, .int .i64 G, .bool gr] 42))).later (below_alloc _ (.cells #[.bool false, .slice none 0 0, .int .i64 0] 31))
 have g1 := (locE_new (w.alloc (.cells #[.bool s, .slice ao la ca, .int .i64 e] 31)) [.int .i64 R, .int .i64 D, .int .i64 L, .int .i64 G, .bool gr] 42).later (below_alloc _ (.cells #[.bool false, .slice none 0 0, .int .i64 0] 31))
 have z1 := locE_new ((w.alloc (.cells #[.bool s, .slice ao la ca, .int .i64 e] 31)).alloc (.cells #[.int .i64 R, .int .i64 D, .int .i64 L, .int .i64 G, .bool gr] 42)) [.bool false, .slice none 0 0, .int .i64 0] 31
 simp only [World.size_alloc] at g1 z1
 obtain ⟨x0, x1, x2, x3, x4⟩ := g1.cs5
 go_enter Tryz.func16, Tryz.ntmps16
 go_wp2_with fail
 refine (HWI.out _).mono ?_
 rintro z w2 ⟨rfl, bb2⟩
 clear x0 x1 x2 x3 x4
 have q_2 := q1.later bb2
 have g_2 := g1.later bb2
 have z_2 := z1.later bb2
 have b0_2 := below_trans b1 bb2
 clear q1 g1 z1 b1 bb2
 have hz2 : w.heap.size + 1 + 1 < w2.heap.size := z_2.lt
 have hPL : w.heap.size + 1 + 1 < w2.heap.size + 1 := by omega
 have hPB : w2.heap.size ≠ w2.heap.size + 1 := by omega
 have hPC : w.heap.size ≤ w2.heap.size := by omega
 clear hz2
 have r2 : Rd (w2.alloc (.cells #[.int .i64 1] 3)) .i64 (.slice (some ⟨w2.heap.size, 0, none⟩) 1 1) [1] := rd_new (w := w2) (k := .i64) (e := 3) [1] #[.int .i64 1] rfl (by unfold maxLen; simp)
 have ba2 := below_alloc w2 (.cells #[.int .i64 1] 3)
 have q_3 := q_2.later ba2
 have g_3 := g_2.later ba2
 have z_3 := z_2.later ba2
 have b0_3 := below_trans b0_2 ba2
 clear q_2 g_2 z_2 b0_2 ba2
 have xx2 := g_3.cell 2 rfl
 have bl2 := below_alloc (w2.alloc (.cells #[.int .i64 1] 3)) (.cells #[.bool false, .slice (some ⟨w2.heap.size, 0, none⟩) 1 1, .int .i64 (wd * L)] 31)
 have l2 := locE_new (w2.alloc (.cells #[.int .i64 1] 3)) [.bool false, .slice (some ⟨w2.heap.size, 0, none⟩) 1 1, .int .i64 (wd * L)] 31
 have q_4 := q_3.later bl2
 have g_4 := g_3.later bl2
 have z_4 := z_3.later bl2
 have r_4 := r2.later bl2
 have b0_4 := below_trans b0_3 bl2
 clear q_3 g_3 z_3 r2 b0_3 bl2
 obtain ⟨x0, x1, x2, x3, x4⟩ := g_4.cs5
 go_upto_region 3 with fail
 clear xx2
 simp only [World.size_alloc] at l2
 generalize (w2.alloc (.cells #[.int .i64 1] 3)).alloc (.cells #[.bool false, .slice (some ⟨w2.heap.size, 0, none⟩) 1 1, .int .i64 (wd * L)] 31) = W3 at q_4 g_4 z_4 r_4 l2 b0_4 x0 x1 x2 x3 x4 ⊢
 generalize w2.heap.size + 1 = PL at l2 hPL hPB ⊢
 generalize w2.heap.size = PB at r_4 l2 hPB hPC ⊢
 cases gr
 ·skip
  have hle := E2.out rfl
  subst hle
  clear E1 E2
  have p0 := l2.cell 0 rfl
  have o0 := l2.free 0
  have p1 := l2.cell 1 rfl
  have o1 := l2.free 1
  have p2 := l2.cell 2 rfl
  have o2 := l2.free 2
  go_upto_region 5 with fail
  have bu := but_set W3 PL 2 (.int .i64 (wd * (L + D - 1)))
  have q4 := bu.loc q_4 (by omega)
  have g4 := bu.loc g_4 (by omega)
  have z4 := bu.loc z_4 (by omega)
  have b4 := bu.below b0_4 (by omega)
  have l4 := l2.set 2 (.int .i64 (wd * (L + D - 1)))
  have r4 := bu.rd r_4 (fun _ a n c hv => by cases hv; exact hPB)
  simp only [List.set_cons_succ, List.set_cons_zero] at l4
  generalize (W3.setCell ⟨PL, 2, none⟩ (.int .i64 (wd * (L + D - 1)))) = W4 at q4 g4 z4 b4 l4 r4 ⊢
  clear q_4 g_4 z_4 r_4 l2 b0_4 x0 x1 x2 x3 x4 p0 p1 p2 o0 o1 o2 bu
  by_cases hl : la = 0
  ·obtain ⟨h1, h2, h3, h4⟩ := R0.out hl
   subst h1 h2 h3 h4 hl
   have y0 := q4.cell 0 rfl
   have p0 := l4.cell 0 rfl
   have y1 := q4.cell 1 rfl
   have p1 := l4.cell 1 rfl
   have y2 := q4.cell 2 rfl
   have p2 := l4.cell 2 rfl
   have d0 := z4.cell 0 rfl
   have f0 := z4.free 0
   have d1 := z4.cell 1 rfl
   have f1 := z4.free 1
   have d2 := z4.cell 2 rfl
   have f2 := z4.free 2
   go_wp2
   have bu : But (w.heap.size + 1 + 1) W4 (((W4.setCell ⟨w.heap.size + 1 + 1, 0, none⟩ (.bool false)).setCell ⟨w.heap.size + 1 + 1, 1, none⟩ (.slice (some ⟨PB, 0, none⟩) 1 1)).setCell ⟨w.heap.size + 1 + 1, 2, none⟩ (.int .i64 (wd * (L + D - 1)))) := ((but_set W4 (w.heap.size + 1 + 1) 0 (.bool false)).trans (but_set _ (w.heap.size + 1 + 1) 1 (.slice (some ⟨PB, 0, none⟩) 1 1))).trans (but_set _ (w.heap.size + 1 + 1) 2 (.int .i64 (wd * (L + D - 1))))
   have cX : LocE (((W4.setCell ⟨w.heap.size + 1 + 1, 0, none⟩ (.bool false)).setCell ⟨w.heap.size + 1 + 1, 1, none⟩ (.slice (some ⟨PB, 0, none⟩) 1 1)).setCell ⟨w.heap.size + 1 + 1, 2, none⟩ (.int .i64 (wd * (L + D - 1)))) (w.heap.size + 1 + 1) 31 [.bool false, .slice (some ⟨PB, 0, none⟩) 1 1, .int .i64 (wd * (L + D - 1))] := ((z4.set 0 (.bool false)).set 1 (.slice (some ⟨PB, 0, none⟩) 1 1)).set 2 (.int .i64 (wd * (L + D - 1)))
   have bX := bu.below b4 (show w.heap.size ≤ w.heap.size + 1 + 1 by omega)
   have rX := bu.rd r4 (rd_offE r4 norm_one z4 z3_zero)
   obtain ⟨s0, s1, s2⟩ := cX.cs3
   refine bodyPost_ret (v := .tuple #[.agg #[.bool false, .slice (some ⟨PB, 0, none⟩) 1 1, .int .i64 (wd * (L + D - 1))], .bool true]) (by simp [results, Tryz.results16, go_sem, s0, s1, s2]) rfl ?_
   exact ⟨_, rfl, by rw [dg_one]; exact rX, (fun a n c hv => by cases hv; exact hPC), bX⟩
  ·skip
   replace R1 : Hid _ := R1.out hl
   replace R2 : Hid _ := R2.out hl
   replace R3 : Hid _ := R3.out hl
   replace R4 : Hid _ := R4.out hl
   replace HP1 : Hid _ := HP1.out hl
   replace HP2 : Hid _ := HP2.out hl
   replace HI1 : Hid _ := HI1.out hl
   replace HI2 : Hid _ := HI2.out hl
   replace HC : Hid _ := HC.out hl
   clear l4 r4
   have hla : ((la : Int) == 0) = false := by simp; omega
   have zz1 := q4.cell 1 rfl
   have bd_5 : Below W4.heap.size W4 W4.drew := (Below.refl _ _).drew
   have q_d := q4.later bd_5
   have g_d := g4.later bd_5
   have z_d := z4.later bd_5
   have b_d := below_trans b4 bd_5
   obtain ⟨y0, y1, y2⟩ := q_d.cs3
   go_wp2_with fail
   go_region_held3 (fun wq => wq.cell? ⟨w.heap.size, 1, none⟩ = some (.slice ao la ca) ∧ wq.cell? ⟨w.heap.size, 2, none⟩ = some (.int .i64 e)) (go_keep) (first
    | (go_at_call 28; have hgd := b_d; clear hgd; refine (HLN.out _ b_d).mono ?_; rintro z wa ⟨rfl, bb_wa⟩; have b0_wa := below_trans b_d bb_wa; have q_wa := q_d.later bb_wa; have g_wa := g_d.later bb_wa; have z_wa := z_d.later bb_wa; obtain ⟨ya0, ya1, ya2⟩ := q_wa.cs3; clear b_d))
   clear y0 y1 y2 zz1 ya0 ya1 ya2
   obtain ⟨x0, x1, x2, x3, x4⟩ := g_wa.cs5
   obtain ⟨y0, y1, y2⟩ := q_wa.cs3
   have xd := (g_wa.later (Below.refl _ _).drew).cell 1 rfl
   have xe := (g_wa.later (Below.refl _ _).drew).cell 2 rfl
   go_upto_region 8 with fail
   go_cut [9] (fun s9 wx => s9 = .int .i64 k ∧ Below wa.heap.size wa wx)
   case first =>
    go_wp2_with fail
    go_quiet (fail)
    all_goals (go_wp2_with fail)
    all_goals (go_meet; exact ⟨by simp, below_drewN (Below.refl _ _) _⟩)
   case rest =>
    obtain ⟨rfl, bwx⟩ := hcut
    clear xd xe x0 x1 x2 x3 x4 y0 y1 y2 M U1 U2 U3 UX U4 U5 U6 Q1 Q2 U7 U8 U9 UA UB
    have q_41 := q_wa.later bwx
    have g_41 := g_wa.later bwx
    have z_41 := z_wa.later bwx
    have b0_41 := below_trans b0_wa bwx
    clear q_wa g_wa z_wa b0_wa bwx
    cases s
    ·obtain ⟨h1, h2, h3, h4⟩ := R1.out rfl
     subst h1 h2 h3 h4
     clear R0 R1 R2 R3 R4 HC HP2 HI2
     have qold := q_41
     obtain ⟨yy0, yy1, yy2⟩ := qold.cs3
     have rone : Rd (wc.alloc (.cells #[.int .i64 1] 3)) .i64 (.slice (some ⟨wc.heap.size, 0, none⟩) 1 1) [1] := rd_new (w := wc) (k := .i64) (e := 3) [1] #[.int .i64 1] rfl (by unfold maxLen; simp)
     have bone := below_alloc wc (.cells #[.int .i64 1] 3)
     have q_61 := q_41.later bone
     have g_61 := g_41.later bone
     have z_61 := z_41.later bone
     have b0_61 := below_trans b0_41 bone
     clear q_41 g_41 z_41 b0_41 bone
     go_wp2_with fail
     refine (HP1.out _ _ _ b0_61 rone).mono ?_
     rintro z wp ⟨vp, rfl, rp, fp, bbp⟩
     obtain ⟨co, cc, hvp⟩ := rp.shape
     subst hvp
     simp only at rp fp ⊢
     clear rone qold yy0 yy1 yy2
     have hF : Hid (Far w.heap.size (.slice co (Dg.dg 65536 cn).length cc)) := fp.mono b0_61.size
     clear fp
     have q_62 := q_61.later bbp
     have g_62 := g_61.later bbp
     have z_62 := z_61.later bbp
     have b0_62 := below_trans b0_61 bbp
     clear q_61 g_61 z_61 b0_61 bbp
     have apc := below_alloc wp (.cells #[.bool cs, .slice co (Dg.dg 65536 cn).length cc, .int .i64 ce] 31)
     have lpc := locE_new wp [.bool cs, .slice co (Dg.dg 65536 cn).length cc, .int .i64 ce] 31
     have hP : w.heap.size + 1 + 1 < wp.heap.size := z_62.lt
     have q_63 := q_62.later apc
     have g_63 := g_62.later apc
     have z_63 := z_62.later apc
     have p_63 := rp.later apc
     have b0_63 := below_trans b0_62 apc
     clear q_62 g_62 z_62 rp b0_62 apc
     go_upto_region 11 with fail
     generalize wp.alloc (.cells #[.bool cs, .slice co (Dg.dg 65536 cn).length cc, .int .i64 ce] 31) = W5 at q_63 g_63 z_63 p_63 lpc b0_63 ⊢
     generalize wp.heap.size = PC at lpc hP ⊢
     have bd5 : Below W5.heap.size W5 W5.drew := (Below.refl _ _).drew
     obtain ⟨yo0, yo1, yo2⟩ := lpc.cs3
     have q_64 := q_63.later bd5
     have g_64 := g_63.later bd5
     have z_64 := z_63.later bd5
     have p_64 := p_63.later bd5
     have c_64 := lpc.later bd5
     have b0_64 := below_trans b0_63 bd5
     clear q_63 g_63 z_63 p_63 lpc b0_63 bd5
     have buS := ((but_set W5.drew (w.heap.size + 1 + 1) 0 (.bool cs)).trans (but_set _ (w.heap.size + 1 + 1) 1 (.slice co (Dg.dg 65536 cn).length cc))).trans (but_set _ (w.heap.size + 1 + 1) 2 (.int .i64 ce))
     have rS := buS.rd p_64 (rd_offE p_64 (Dg.norm_dg _ _ (by omega)) z_64 z3_zero)
     have bS := buS.below b0_64 (show w.heap.size ≤ w.heap.size + 1 + 1 by omega)
     have zS : LocE (((W5.drew.setCell ⟨w.heap.size + 1 + 1, 0, none⟩ (.bool cs)).setCell ⟨w.heap.size + 1 + 1, 1, none⟩ (.slice co (Dg.dg 65536 cn).length cc)).setCell ⟨w.heap.size + 1 + 1, 2, none⟩ (.int .i64 ce)) (w.heap.size + 1 + 1) 31 [.bool cs, .slice co (Dg.dg 65536 cn).length cc, .int .i64 ce] := ((z_64.set 0 (.bool cs)).set 1 (.slice co (Dg.dg 65536 cn).length cc)).set 2 (.int .i64 ce)
     obtain ⟨x0, x1, x2, x3, x4⟩ := g_64.cs5
     obtain ⟨y0, y1, y2⟩ := c_64.cs3
     have d0 := z_64.cell 0 rfl
     have f0 := z_64.free 0
     have d1 := z_64.cell 1 rfl
     have f1 := z_64.free 1
     have d2 := z_64.cell 2 rfl
     have f2 := z_64.free 2
     have nn1 : PC ≠ w.heap.size + 1 + 1 := by omega
     have nn2 : w.heap.size + 1 ≠ w.heap.size + 1 + 1 := by omega
     have nn3 : w.heap.size + 1 + 1 ≠ PC := by omega
     have nn4 : w.heap.size + 1 + 1 ≠ w.heap.size + 1 := by omega
     go_wp2_with fail
     go_region_held3 (fun wq => (wq.cell? ⟨PC, 0, none⟩ = some (.bool cs) ∧ wq.cell? ⟨PC, 1, none⟩ = some (.slice co (Dg.dg 65536 cn).length cc) ∧ wq.cell? ⟨PC, 2, none⟩ = some (.int .i64 ce)) ∧ wq.cell? ⟨w.heap.size + 1, 0, none⟩ = some (.int .i64 R) ∧ wq.cell? ⟨w.heap.size + 1, 1, none⟩ = some (.int .i64 D) ∧ wq.cell? ⟨w.heap.size + 1, 2, none⟩ = some (.int .i64 L) ∧ wq.cell? ⟨w.heap.size + 1, 3, none⟩ = some (.int .i64 G) ∧ wq.cell? ⟨w.heap.size + 1, 4, none⟩ = some (.bool false)) (go_keep) (first
      | (go_at_call 14; (with_reducible (refine (HI1.out _ _ _ p_64).mono ?_)); rintro z wi ⟨rfl, bi⟩; have z_i := z_64.later bi; have r_i := p_64.later bi; have b_i := below_trans b0_64 bi; obtain ⟨di0, di1, di2⟩ := z_i.cs3; have ei0 := z_i.free 0; have ei1 := z_i.free 1; have ei2 := z_i.free 2; have c_i := c_64.later bi; have g_i := g_64.later bi; obtain ⟨yi0, yi1, yi2⟩ := c_i.cs3; obtain ⟨xi0, xi1, xi2, xi3, xi4⟩ := g_i.cs5)
      | (go_at_call 14; (with_reducible (refine (HI1.out _ _ _ rS).mono ?_)); rintro z wi ⟨rfl, bi⟩; have zS_i := zS.later bi; have r_i := rS.later bi; have b_i := below_trans bS bi; obtain ⟨di0, di1, di2⟩ := zS_i.cs3))
     all_goals (go_wp2)
     all_goals (first
      | (have bu := ((but_set wi (w.heap.size + 1 + 1) 0 (.bool cs)).trans (but_set _ (w.heap.size + 1 + 1) 1 (.slice co (Dg.dg 65536 cn).length cc))).trans (but_set _ (w.heap.size + 1 + 1) 2 (.int .i64 ce)); have cX : LocE (((wi.setCell ⟨w.heap.size + 1 + 1, 0, none⟩ (.bool cs)).setCell ⟨w.heap.size + 1 + 1, 1, none⟩ (.slice co (Dg.dg 65536 cn).length cc)).setCell ⟨w.heap.size + 1 + 1, 2, none⟩ (.int .i64 ce)) (w.heap.size + 1 + 1) 31 [.bool cs, .slice co (Dg.dg 65536 cn).length cc, .int .i64 ce] := ((z_i.set 0 (.bool cs)).set 1 (.slice co (Dg.dg 65536 cn).length cc)).set 2 (.int .i64 ce); have bX := bu.below b_i (show w.heap.size ≤ w.heap.size + 1 + 1 by omega); have rX := bu.rd r_i (rd_offE r_i (Dg.norm_dg _ _ (by omega)) z_i z3_zero); obtain ⟨s0, s1, s2⟩ := cX.cs3; refine bodyPost_ret (v := .tuple #[.agg #[.bool cs, .slice co (Dg.dg 65536 cn).length cc, .int .i64 ce], .bool ic]) (by simp [results, Tryz.results16, go_sem, s0, s1, s2]) rfl ?_; exact ⟨_, rfl, rX, hF.out, bX⟩)
      | (refine bodyPost_ret (v := .tuple #[.agg #[.bool cs, .slice co (Dg.dg 65536 cn).length cc, .int .i64 ce], .bool ic]) (by simp [results, Tryz.results16, go_sem, di0, di1, di2]) rfl ?_; exact ⟨_, rfl, r_i, hF.out, b_i⟩))
    ·replace R2 : Hid _ := R2.out rfl
     replace R3 : Hid _ := R3.out rfl
     replace R4 : Hid _ := R4.out rfl
     replace HC : Hid _ := HC.out rfl
     replace HP2 : Hid _ := HP2.out rfl
     replace HI2 : Hid _ := HI2.out rfl
     clear R0 R1
     have qold := q_41
     obtain ⟨yy0, yy1, yy2⟩ := qold.cs3
     have rone : Rd (wc.alloc (.cells #[.int .i64 1] 3)) .i64 (.slice (some ⟨wc.heap.size, 0, none⟩) 1 1) [1] := rd_new (w := wc) (k := .i64) (e := 3) [1] #[.int .i64 1] rfl (by unfold maxLen; simp)
     have bone := below_alloc wc (.cells #[.int .i64 1] 3)
     have q_161 := q_41.later bone
     have g_161 := g_41.later bone
     have z_161 := z_41.later bone
     have b0_161 := below_trans b0_41 bone
     clear q_41 g_41 z_41 b0_41 bone
     go_wp2_with fail
     refine (HP2.out _ _ _ b0_161 rone).mono ?_
     rintro z wp ⟨vp, rfl, rp, fp, bbp⟩
     obtain ⟨fo, fc, hvp⟩ := rp.shape
     subst hvp
     simp only at rp fp ⊢
     clear rone qold yy0 yy1 yy2
     have hF : Hid (Far w.heap.size (.slice fo (Dg.dg 65536 fn).length fc)) := fp.mono b0_161.size
     clear fp
     have q_162 := q_161.later bbp
     have g_162 := g_161.later bbp
     have z_162 := z_161.later bbp
     have b0_162 := below_trans b0_161 bbp
     clear q_161 g_161 z_161 b0_161 bbp
     have apc := below_alloc wp (.cells #[.bool fs, .slice fo (Dg.dg 65536 fn).length fc, .int .i64 fe] 31)
     have lpc := locE_new wp [.bool fs, .slice fo (Dg.dg 65536 fn).length fc, .int .i64 fe] 31
     have hP : w.heap.size + 1 + 1 < wp.heap.size := z_162.lt
     have q_163 := q_162.later apc
     have g_163 := g_162.later apc
     have z_163 := z_162.later apc
     have p_163 := rp.later apc
     have b0_163 := below_trans b0_162 apc
     clear q_162 g_162 z_162 rp b0_162 apc
     go_upto_region 13 with fail
     generalize wp.alloc (.cells #[.bool fs, .slice fo (Dg.dg 65536 fn).length fc, .int .i64 fe] 31) = W5 at q_163 g_163 z_163 p_163 lpc b0_163 ⊢
     generalize wp.heap.size = PF at lpc hP ⊢
     obtain ⟨x0, x1, x2, x3, x4⟩ := g_163.cs5
     obtain ⟨y0, y1, y2⟩ := lpc.cs3
     go_wp2_with fail
     refine (HI2.out _ _ _ p_163).mono ?_
     rintro z wi ⟨rfl, bbi⟩
     clear x0 x1 x2 x3 x4 y0 y1 y2 HI2
     have q_164 := q_163.later bbi
     have g_164 := g_163.later bbi
     have z_164 := z_163.later bbi
     have p_164 := p_163.later bbi
     have c_164 := lpc.later bbi
     have b0_164 := below_trans b0_163 bbi
     clear q_163 g_163 z_163 p_163 lpc b0_163 bbi
     cases fi
     ·replace R3 : Hid _ := R3.out rfl
      replace R4 : Hid _ := R4.out rfl
      clear R2 HC HP2 hF p_164
      have p0 := c_164.cell 0 rfl
      have o0 := c_164.free 0
      have p1 := c_164.cell 1 rfl
      have o1 := c_164.free 1
      have p2 := c_164.cell 2 rfl
      have o2 := c_164.free 2
      have qold := q_164
      obtain ⟨yy0, yy1, yy2⟩ := qold.cs3
      have rone : Rd (wi.alloc (.cells #[.int .i64 1] 3)) .i64 (.slice (some ⟨wi.heap.size, 0, none⟩) 1 1) [1] := rd_new (w := wi) (k := .i64) (e := 3) [1] #[.int .i64 1] rfl (by unfold maxLen; simp)
      have bone := below_alloc wi (.cells #[.int .i64 1] 3)
      have q_201 := q_164.later bone
      have g_201 := g_164.later bone
      have z_201 := z_164.later bone
      have c_201 := c_164.later bone
      have b0_201 := below_trans b0_164 bone
      clear q_164 g_164 z_164 c_164 b0_164 bone
      go_wp2_with fail
      refine (HP1.out _ _ _ b0_201 rone).mono ?_
      rintro z wp ⟨vp, rfl, rp, fp, bbp⟩
      obtain ⟨co, cc, hvp⟩ := rp.shape
      subst hvp
      simp only at rp fp ⊢
      clear rone qold yy0 yy1 yy2
      have hF : Hid (Far w.heap.size (.slice co (Dg.dg 65536 cn).length cc)) := fp.mono b0_201.size
      have hlt := c_201.lt
      have q_202 := q_201.later bbp
      have g_202 := g_201.later bbp
      have z_202 := z_201.later bbp
      have c_202 := c_201.later bbp
      have b0_202 := below_trans b0_201 bbp
      clear q_201 g_201 z_201 c_201 b0_201 bbp
      have u0 := c_202.cell 0 rfl
      have v0 := c_202.free 0
      have u1 := c_202.cell 1 rfl
      have v1 := c_202.free 1
      have u2 := c_202.cell 2 rfl
      have v2 := c_202.free 2
      go_upto_region 16 with fail
      have bu := ((but_set wp PF 0 (.bool cs)).trans (but_set _ PF 1 (.slice co (Dg.dg 65536 cn).length cc))).trans (but_set _ PF 2 (.int .i64 ce))
      have q6 := bu.loc q_202 (by omega)
      have g6 := bu.loc g_202 (by omega)
      have z6 := bu.loc z_202 (by omega)
      have c6 : LocE (((wp.setCell ⟨PF, 0, none⟩ (.bool cs)).setCell ⟨PF, 1, none⟩ (.slice co (Dg.dg 65536 cn).length cc)).setCell ⟨PF, 2, none⟩ (.int .i64 ce)) PF 31 [.bool cs, .slice co (Dg.dg 65536 cn).length cc, .int .i64 ce] := ((c_202.set 0 (.bool cs)).set 1 (.slice co (Dg.dg 65536 cn).length cc)).set 2 (.int .i64 ce)
      have r6 := bu.rd rp (far_off fp hlt)
      have b6 := bu.below b0_202 (by omega)
      generalize (((wp.setCell ⟨PF, 0, none⟩ (.bool cs)).setCell ⟨PF, 1, none⟩ (.slice co (Dg.dg 65536 cn).length cc)).setCell ⟨PF, 2, none⟩ (.int .i64 ce)) = W6 at q6 g6 z6 c6 r6 b6 ⊢
      clear q_202 g_202 z_202 c_202 rp b0_202 bu fp hlt p0 p1 p2 o0 o1 o2 u0 u1 u2 v0 v1 v2
      obtain ⟨x0, x1, x2, x3, x4⟩ := g6.cs5
      obtain ⟨y0, y1, y2⟩ := c6.cs3
      go_wp2_with fail
      refine (HI1.out _ _ _ r6).mono ?_
      rintro z wj ⟨rfl, bbj⟩
      clear x0 x1 x2 x3 x4 y0 y1 y2 HI1 HP1
      have q_203 := q6.later bbj
      have g_203 := g6.later bbj
      have z_203 := z6.later bbj
      have c_203 := c6.later bbj
      have p_203 := r6.later bbj
      have b0_203 := below_trans b6 bbj
      clear q6 g6 z6 c6 r6 b6 bbj
      cases ic
      ·obtain ⟨h1, h2, h3, h4⟩ := R4.out rfl
       subst h1 h2 h3 h4
       have d0 := z_203.cell 0 rfl
       have f0 := z_203.free 0
       have d1 := z_203.cell 1 rfl
       have f1 := z_203.free 1
       have d2 := z_203.cell 2 rfl
       have f2 := z_203.free 2
       go_wp2
       have bu : But (w.heap.size + 1 + 1) wj (((wj.setCell ⟨w.heap.size + 1 + 1, 0, none⟩ (.bool false)).setCell ⟨w.heap.size + 1 + 1, 1, none⟩ (.slice none 0 0)).setCell ⟨w.heap.size + 1 + 1, 2, none⟩ (.int .i64 0)) := ((but_set wj (w.heap.size + 1 + 1) 0 (.bool false)).trans (but_set _ (w.heap.size + 1 + 1) 1 (.slice none 0 0))).trans (but_set _ (w.heap.size + 1 + 1) 2 (.int .i64 0))
       have cX : LocE (((wj.setCell ⟨w.heap.size + 1 + 1, 0, none⟩ (.bool false)).setCell ⟨w.heap.size + 1 + 1, 1, none⟩ (.slice none 0 0)).setCell ⟨w.heap.size + 1 + 1, 2, none⟩ (.int .i64 0)) (w.heap.size + 1 + 1) 31 [.bool false, .slice none 0 0, .int .i64 0] := ((z_203.set 0 (.bool false)).set 1 (.slice none 0 0)).set 2 (.int .i64 0)
       have bX := bu.below b0_203 (show w.heap.size ≤ w.heap.size + 1 + 1 by omega)
       obtain ⟨s0, s1, s2⟩ := cX.cs3
       refine bodyPost_ret (v := .tuple #[.agg #[.bool false, .slice none 0 0, .int .i64 0], .bool true]) (by simp [results, Tryz.results16, go_sem, s0, s1, s2]) rfl ?_
       exact ⟨_, rfl, rd_nil _ _, (fun a n c hv => by cases hv), bX⟩
      ·obtain ⟨h1, h2, h3, h4⟩ := R3.out rfl
       subst h1 h2 h3 h4
       obtain ⟨y0, y1, y2⟩ := c_203.cs3
       have d0 := z_203.cell 0 rfl
       have f0 := z_203.free 0
       have d1 := z_203.cell 1 rfl
       have f1 := z_203.free 1
       have d2 := z_203.cell 2 rfl
       have f2 := z_203.free 2
       go_wp2
       have bu : But (w.heap.size + 1 + 1) wj (((wj.setCell ⟨w.heap.size + 1 + 1, 0, none⟩ (.bool cs)).setCell ⟨w.heap.size + 1 + 1, 1, none⟩ (.slice co (Dg.dg 65536 cn).length cc)).setCell ⟨w.heap.size + 1 + 1, 2, none⟩ (.int .i64 ce)) := ((but_set wj (w.heap.size + 1 + 1) 0 (.bool cs)).trans (but_set _ (w.heap.size + 1 + 1) 1 (.slice co (Dg.dg 65536 cn).length cc))).trans (but_set _ (w.heap.size + 1 + 1) 2 (.int .i64 ce))
       have cX : LocE (((wj.setCell ⟨w.heap.size + 1 + 1, 0, none⟩ (.bool cs)).setCell ⟨w.heap.size + 1 + 1, 1, none⟩ (.slice co (Dg.dg 65536 cn).length cc)).setCell ⟨w.heap.size + 1 + 1, 2, none⟩ (.int .i64 ce)) (w.heap.size + 1 + 1) 31 [.bool cs, .slice co (Dg.dg 65536 cn).length cc, .int .i64 ce] := ((z_203.set 0 (.bool cs)).set 1 (.slice co (Dg.dg 65536 cn).length cc)).set 2 (.int .i64 ce)
       have bX := bu.below b0_203 (show w.heap.size ≤ w.heap.size + 1 + 1 by omega)
       have rX := bu.rd p_203 (rd_offE p_203 (Dg.norm_dg _ _ (by omega)) z_203 z3_zero)
       obtain ⟨s0, s1, s2⟩ := cX.cs3
       refine bodyPost_ret (v := .tuple #[.agg #[.bool cs, .slice co (Dg.dg 65536 cn).length cc, .int .i64 ce], .bool true]) (by simp [results, Tryz.results16, go_sem, s0, s1, s2]) rfl ?_
       exact ⟨_, rfl, rX, hF.out, bX⟩
     ·obtain ⟨h1, h2, h3, h4⟩ := R2.out rfl
      subst h1 h2 h3 h4
      clear R2 R3 R4 HP1 HP2 HI1
      obtain ⟨x0, x1, x2⟩ := q_164.cs3
      obtain ⟨y0, y1, y2⟩ := c_164.cs3
      go_wp2_with fail
      refine (HC.out _ _ _ b0_164 p_164).mono ?_
      rintro z wj ⟨rfl, bbj⟩
      clear x0 x1 x2 y0 y1 y2 HC
      have q_261 := q_164.later bbj
      have g_261 := g_164.later bbj
      have z_261 := z_164.later bbj
      have p_261 := p_164.later bbj
      have c_261 := c_164.later bbj
      have b0_261 := below_trans b0_164 bbj
      clear q_164 g_164 z_164 p_164 c_164 b0_164 bbj
      obtain ⟨y0, y1, y2⟩ := c_261.cs3
      have d0 := z_261.cell 0 rfl
      have f0 := z_261.free 0
      have d1 := z_261.cell 1 rfl
      have f1 := z_261.free 1
      have d2 := z_261.cell 2 rfl
      have f2 := z_261.free 2
      go_wp2
      have bu : But (w.heap.size + 1 + 1) wj (((wj.setCell ⟨w.heap.size + 1 + 1, 0, none⟩ (.bool fs)).setCell ⟨w.heap.size + 1 + 1, 1, none⟩ (.slice fo (Dg.dg 65536 fn).length fc)).setCell ⟨w.heap.size + 1 + 1, 2, none⟩ (.int .i64 fe)) := ((but_set wj (w.heap.size + 1 + 1) 0 (.bool fs)).trans (but_set _ (w.heap.size + 1 + 1) 1 (.slice fo (Dg.dg 65536 fn).length fc))).trans (but_set _ (w.heap.size + 1 + 1) 2 (.int .i64 fe))
      have cX : LocE (((wj.setCell ⟨w.heap.size + 1 + 1, 0, none⟩ (.bool fs)).setCell ⟨w.heap.size + 1 + 1, 1, none⟩ (.slice fo (Dg.dg 65536 fn).length fc)).setCell ⟨w.heap.size + 1 + 1, 2, none⟩ (.int .i64 fe)) (w.heap.size + 1 + 1) 31 [.bool fs, .slice fo (Dg.dg 65536 fn).length fc, .int .i64 fe] := ((z_261.set 0 (.bool fs)).set 1 (.slice fo (Dg.dg 65536 fn).length fc)).set 2 (.int .i64 fe)
      have bX := bu.below b0_261 (show w.heap.size ≤ w.heap.size + 1 + 1 by omega)
      have rX := bu.rd p_261 (rd_offE p_261 (Dg.norm_dg _ _ (by omega)) z_261 z3_zero)
      obtain ⟨s0, s1, s2⟩ := cX.cs3
      refine bodyPost_ret (v := .tuple #[.agg #[.bool fs, .slice fo (Dg.dg 65536 fn).length fc, .int .i64 fe], .bool true]) (by simp [results, Tryz.results16, go_sem, s0, s1, s2]) rfl ?_
      exact ⟨_, rfl, rX, hF.out, bX⟩
 ·skip
  have hle := E1.out rfl
  subst hle
  clear E1 E2
  go_upto_region 5 with fail
  clear x0 x1 x2 x3 x4
  by_cases hl : la = 0
  ·obtain ⟨h1, h2, h3, h4⟩ := R0.out hl
   subst h1 h2 h3 h4 hl
   have y0 := q_4.cell 0 rfl
   have p0 := l2.cell 0 rfl
   have y1 := q_4.cell 1 rfl
   have p1 := l2.cell 1 rfl
   have y2 := q_4.cell 2 rfl
   have p2 := l2.cell 2 rfl
   have d0 := z_4.cell 0 rfl
   have f0 := z_4.free 0
   have d1 := z_4.cell 1 rfl
   have f1 := z_4.free 1
   have d2 := z_4.cell 2 rfl
   have f2 := z_4.free 2
   go_wp2
   have bu : But (w.heap.size + 1 + 1) W3 (((W3.setCell ⟨w.heap.size + 1 + 1, 0, none⟩ (.bool false)).setCell ⟨w.heap.size + 1 + 1, 1, none⟩ (.slice (some ⟨PB, 0, none⟩) 1 1)).setCell ⟨w.heap.size + 1 + 1, 2, none⟩ (.int .i64 (wd * L))) := ((but_set W3 (w.heap.size + 1 + 1) 0 (.bool false)).trans (but_set _ (w.heap.size + 1 + 1) 1 (.slice (some ⟨PB, 0, none⟩) 1 1))).trans (but_set _ (w.heap.size + 1 + 1) 2 (.int .i64 (wd * L)))
   have cX : LocE (((W3.setCell ⟨w.heap.size + 1 + 1, 0, none⟩ (.bool false)).setCell ⟨w.heap.size + 1 + 1, 1, none⟩ (.slice (some ⟨PB, 0, none⟩) 1 1)).setCell ⟨w.heap.size + 1 + 1, 2, none⟩ (.int .i64 (wd * L))) (w.heap.size + 1 + 1) 31 [.bool false, .slice (some ⟨PB, 0, none⟩) 1 1, .int .i64 (wd * L)] := ((z_4.set 0 (.bool false)).set 1 (.slice (some ⟨PB, 0, none⟩) 1 1)).set 2 (.int .i64 (wd * L))
   have bX := bu.below b0_4 (show w.heap.size ≤ w.heap.size + 1 + 1 by omega)
   have rX := bu.rd r_4 (rd_offE r_4 norm_one z_4 z3_zero)
   obtain ⟨s0, s1, s2⟩ := cX.cs3
   refine bodyPost_ret (v := .tuple #[.agg #[.bool false, .slice (some ⟨PB, 0, none⟩) 1 1, .int .i64 (wd * L)], .bool true]) (by simp [results, Tryz.results16, go_sem, s0, s1, s2]) rfl ?_
   exact ⟨_, rfl, by rw [dg_one]; exact rX, (fun a n c hv => by cases hv; exact hPC), bX⟩
  ·skip
   replace R1 : Hid _ := R1.out hl
   replace R2 : Hid _ := R2.out hl
   replace R3 : Hid _ := R3.out hl
   replace R4 : Hid _ := R4.out hl
   replace HP1 : Hid _ := HP1.out hl
   replace HP2 : Hid _ := HP2.out hl
   replace HI1 : Hid _ := HI1.out hl
   replace HI2 : Hid _ := HI2.out hl
   replace HC : Hid _ := HC.out hl
   clear l2 r_4
   have hla : ((la : Int) == 0) = false := by simp; omega
   have zz1 := q_4.cell 1 rfl
   have bd_15 : Below W3.heap.size W3 W3.drew := (Below.refl _ _).drew
   have q_d := q_4.later bd_15
   have g_d := g_4.later bd_15
   have z_d := z_4.later bd_15
   have b_d := below_trans b0_4 bd_15
   obtain ⟨y0, y1, y2⟩ := q_d.cs3
   go_wp2_with fail
   go_region_held3 (fun wq => wq.cell? ⟨w.heap.size, 1, none⟩ = some (.slice ao la ca) ∧ wq.cell? ⟨w.heap.size, 2, none⟩ = some (.int .i64 e)) (go_keep) (first
    | (go_at_call 28; have hgd := b_d; clear hgd; refine (HLN.out _ b_d).mono ?_; rintro z wa ⟨rfl, bb_wa⟩; have b0_wa := below_trans b_d bb_wa; have q_wa := q_d.later bb_wa; have g_wa := g_d.later bb_wa; have z_wa := z_d.later bb_wa; obtain ⟨ya0, ya1, ya2⟩ := q_wa.cs3; clear b_d))
   clear y0 y1 y2 zz1 ya0 ya1 ya2
   obtain ⟨x0, x1, x2, x3, x4⟩ := g_wa.cs5
   obtain ⟨y0, y1, y2⟩ := q_wa.cs3
   have xd := (g_wa.later (Below.refl _ _).drew).cell 1 rfl
   have xe := (g_wa.later (Below.refl _ _).drew).cell 2 rfl
   go_upto_region 8 with fail
   go_cut [9] (fun s9 wx => s9 = .int .i64 k ∧ Below wa.heap.size wa wx)
   case first =>
    go_wp2_with fail
    go_quiet (fail)
    all_goals (go_wp2_with fail)
    all_goals (go_meet; exact ⟨by simp, below_drewN (Below.refl _ _) _⟩)
   case rest =>
    obtain ⟨rfl, bwx⟩ := hcut
    clear xd xe x0 x1 x2 x3 x4 y0 y1 y2 M U1 U2 U3 UX U4 U5 U6 Q1 Q2 U7 U8 U9 UA UB
    have q_41 := q_wa.later bwx
    have g_41 := g_wa.later bwx
    have z_41 := z_wa.later bwx
    have b0_41 := below_trans b0_wa bwx
    clear q_wa g_wa z_wa b0_wa bwx
    cases s
    ·obtain ⟨h1, h2, h3, h4⟩ := R1.out rfl
     subst h1 h2 h3 h4
     clear R0 R1 R2 R3 R4 HC HP2 HI2
     have qold := q_41
     obtain ⟨yy0, yy1, yy2⟩ := qold.cs3
     have rone : Rd (wc.alloc (.cells #[.int .i64 1] 3)) .i64 (.slice (some ⟨wc.heap.size, 0, none⟩) 1 1) [1] := rd_new (w := wc) (k := .i64) (e := 3) [1] #[.int .i64 1] rfl (by unfold maxLen; simp)
     have bone := below_alloc wc (.cells #[.int .i64 1] 3)
     have q_61 := q_41.later bone
     have g_61 := g_41.later bone
     have z_61 := z_41.later bone
     have b0_61 := below_trans b0_41 bone
     clear q_41 g_41 z_41 b0_41 bone
     go_wp2_with fail
     refine (HP1.out _ _ _ b0_61 rone).mono ?_
     rintro z wp ⟨vp, rfl, rp, fp, bbp⟩
     obtain ⟨co, cc, hvp⟩ := rp.shape
     subst hvp
     simp only at rp fp ⊢
     clear rone qold yy0 yy1 yy2
     have hF : Hid (Far w.heap.size (.slice co (Dg.dg 65536 cn).length cc)) := fp.mono b0_61.size
     clear fp
     have q_62 := q_61.later bbp
     have g_62 := g_61.later bbp
     have z_62 := z_61.later bbp
     have b0_62 := below_trans b0_61 bbp
     clear q_61 g_61 z_61 b0_61 bbp
     have apc := below_alloc wp (.cells #[.bool cs, .slice co (Dg.dg 65536 cn).length cc, .int .i64 ce] 31)
     have lpc := locE_new wp [.bool cs, .slice co (Dg.dg 65536 cn).length cc, .int .i64 ce] 31
     have hP : w.heap.size + 1 + 1 < wp.heap.size := z_62.lt
     have q_63 := q_62.later apc
     have g_63 := g_62.later apc
     have z_63 := z_62.later apc
     have p_63 := rp.later apc
     have b0_63 := below_trans b0_62 apc
     clear q_62 g_62 z_62 rp b0_62 apc
     go_upto_region 11 with fail
     generalize wp.alloc (.cells #[.bool cs, .slice co (Dg.dg 65536 cn).length cc, .int .i64 ce] 31) = W5 at q_63 g_63 z_63 p_63 lpc b0_63 ⊢
     generalize wp.heap.size = PC at lpc hP ⊢
     have bd5 : Below W5.heap.size W5 W5.drew := (Below.refl _ _).drew
     obtain ⟨yo0, yo1, yo2⟩ := lpc.cs3
     have q_64 := q_63.later bd5
     have g_64 := g_63.later bd5
     have z_64 := z_63.later bd5
     have p_64 := p_63.later bd5
     have c_64 := lpc.later bd5
     have b0_64 := below_trans b0_63 bd5
     clear q_63 g_63 z_63 p_63 lpc b0_63 bd5
     have buS := ((but_set W5.drew (w.heap.size + 1 + 1) 0 (.bool cs)).trans (but_set _ (w.heap.size + 1 + 1) 1 (.slice co (Dg.dg 65536 cn).length cc))).trans (but_set _ (w.heap.size + 1 + 1) 2 (.int .i64 ce))
     have rS := buS.rd p_64 (rd_offE p_64 (Dg.norm_dg _ _ (by omega)) z_64 z3_zero)
     have bS := buS.below b0_64 (show w.heap.size ≤ w.heap.size + 1 + 1 by omega)
     have zS : LocE (((W5.drew.setCell ⟨w.heap.size + 1 + 1, 0, none⟩ (.bool cs)).setCell ⟨w.heap.size + 1 + 1, 1, none⟩ (.slice co (Dg.dg 65536 cn).length cc)).setCell ⟨w.heap.size + 1 + 1, 2, none⟩ (.int .i64 ce)) (w.heap.size + 1 + 1) 31 [.bool cs, .slice co (Dg.dg 65536 cn).length cc, .int .i64 ce] := ((z_64.set 0 (.bool cs)).set 1 (.slice co (Dg.dg 65536 cn).length cc)).set 2 (.int .i64 ce)
     obtain ⟨x0, x1, x2, x3, x4⟩ := g_64.cs5
     obtain ⟨y0, y1, y2⟩ := c_64.cs3
     have d0 := z_64.cell 0 rfl
     have f0 := z_64.free 0
     have d1 := z_64.cell 1 rfl
     have f1 := z_64.free 1
     have d2 := z_64.cell 2 rfl
     have f2 := z_64.free 2
     have nn1 : PC ≠ w.heap.size + 1 + 1 := by omega
     have nn2 : w.heap.size + 1 ≠ w.heap.size + 1 + 1 := by omega
     have nn3 : w.heap.size + 1 + 1 ≠ PC := by omega
     have nn4 : w.heap.size + 1 + 1 ≠ w.heap.size + 1 := by omega
     go_wp2_with fail
     go_region_held3 (fun wq => (wq.cell? ⟨PC, 0, none⟩ = some (.bool cs) ∧ wq.cell? ⟨PC, 1, none⟩ = some (.slice co (Dg.dg 65536 cn).length cc) ∧ wq.cell? ⟨PC, 2, none⟩ = some (.int .i64 ce)) ∧ wq.cell? ⟨w.heap.size + 1, 0, none⟩ = some (.int .i64 R) ∧ wq.cell? ⟨w.heap.size + 1, 1, none⟩ = some (.int .i64 D) ∧ wq.cell? ⟨w.heap.size + 1, 2, none⟩ = some (.int .i64 L) ∧ wq.cell? ⟨w.heap.size + 1, 3, none⟩ = some (.int .i64 G) ∧ wq.cell? ⟨w.heap.size + 1, 4, none⟩ = some (.bool true)) (go_keep) (first
      | (go_at_call 14; (with_reducible (refine (HI1.out _ _ _ p_64).mono ?_)); rintro z wi ⟨rfl, bi⟩; have z_i := z_64.later bi; have r_i := p_64.later bi; have b_i := below_trans b0_64 bi; obtain ⟨di0, di1, di2⟩ := z_i.cs3; have ei0 := z_i.free 0; have ei1 := z_i.free 1; have ei2 := z_i.free 2; have c_i := c_64.later bi; have g_i := g_64.later bi; obtain ⟨yi0, yi1, yi2⟩ := c_i.cs3; obtain ⟨xi0, xi1, xi2, xi3, xi4⟩ := g_i.cs5)
      | (go_at_call 14; (with_reducible (refine (HI1.out _ _ _ rS).mono ?_)); rintro z wi ⟨rfl, bi⟩; have zS_i := zS.later bi; have r_i := rS.later bi; have b_i := below_trans bS bi; obtain ⟨di0, di1, di2⟩ := zS_i.cs3))
     all_goals (go_wp2)
     all_goals (first
      | (have bu := ((but_set wi (w.heap.size + 1 + 1) 0 (.bool cs)).trans (but_set _ (w.heap.size + 1 + 1) 1 (.slice co (Dg.dg 65536 cn).length cc))).trans (but_set _ (w.heap.size + 1 + 1) 2 (.int .i64 ce)); have cX : LocE (((wi.setCell ⟨w.heap.size + 1 + 1, 0, none⟩ (.bool cs)).setCell ⟨w.heap.size + 1 + 1, 1, none⟩ (.slice co (Dg.dg 65536 cn).length cc)).setCell ⟨w.heap.size + 1 + 1, 2, none⟩ (.int .i64 ce)) (w.heap.size + 1 + 1) 31 [.bool cs, .slice co (Dg.dg 65536 cn).length cc, .int .i64 ce] := ((z_i.set 0 (.bool cs)).set 1 (.slice co (Dg.dg 65536 cn).length cc)).set 2 (.int .i64 ce); have bX := bu.below b_i (show w.heap.size ≤ w.heap.size + 1 + 1 by omega); have rX := bu.rd r_i (rd_offE r_i (Dg.norm_dg _ _ (by omega)) z_i z3_zero); obtain ⟨s0, s1, s2⟩ := cX.cs3; refine bodyPost_ret (v := .tuple #[.agg #[.bool cs, .slice co (Dg.dg 65536 cn).length cc, .int .i64 ce], .bool ic]) (by simp [results, Tryz.results16, go_sem, s0, s1, s2]) rfl ?_; exact ⟨_, rfl, rX, hF.out, bX⟩)
      | (refine bodyPost_ret (v := .tuple #[.agg #[.bool cs, .slice co (Dg.dg 65536 cn).length cc, .int .i64 ce], .bool ic]) (by simp [results, Tryz.results16, go_sem, di0, di1, di2]) rfl ?_; exact ⟨_, rfl, r_i, hF.out, b_i⟩))
    ·replace R2 : Hid _ := R2.out rfl
     replace R3 : Hid _ := R3.out rfl
     replace R4 : Hid _ := R4.out rfl
     replace HC : Hid _ := HC.out rfl
     replace HP2 : Hid _ := HP2.out rfl
     replace HI2 : Hid _ := HI2.out rfl
     clear R0 R1
     have qold := q_41
     obtain ⟨yy0, yy1, yy2⟩ := qold.cs3
     have rone : Rd (wc.alloc (.cells #[.int .i64 1] 3)) .i64 (.slice (some ⟨wc.heap.size, 0, none⟩) 1 1) [1] := rd_new (w := wc) (k := .i64) (e := 3) [1] #[.int .i64 1] rfl (by unfold maxLen; simp)
     have bone := below_alloc wc (.cells #[.int .i64 1] 3)
     have q_161 := q_41.later bone
     have g_161 := g_41.later bone
     have z_161 := z_41.later bone
     have b0_161 := below_trans b0_41 bone
     clear q_41 g_41 z_41 b0_41 bone
     go_wp2_with fail
     refine (HP2.out _ _ _ b0_161 rone).mono ?_
     rintro z wp ⟨vp, rfl, rp, fp, bbp⟩
     obtain ⟨fo, fc, hvp⟩ := rp.shape
     subst hvp
     simp only at rp fp ⊢
     clear rone qold yy0 yy1 yy2
     have hF : Hid (Far w.heap.size (.slice fo (Dg.dg 65536 fn).length fc)) := fp.mono b0_161.size
     clear fp
     have q_162 := q_161.later bbp
     have g_162 := g_161.later bbp
     have z_162 := z_161.later bbp
     have b0_162 := below_trans b0_161 bbp
     clear q_161 g_161 z_161 b0_161 bbp
     have apc := below_alloc wp (.cells #[.bool fs, .slice fo (Dg.dg 65536 fn).length fc, .int .i64 fe] 31)
     have lpc := locE_new wp [.bool fs, .slice fo (Dg.dg 65536 fn).length fc, .int .i64 fe] 31
     have hP : w.heap.size + 1 + 1 < wp.heap.size := z_162.lt
     have q_163 := q_162.later apc
     have g_163 := g_162.later apc
     have z_163 := z_162.later apc
     have p_163 := rp.later apc
     have b0_163 := below_trans b0_162 apc
     clear q_162 g_162 z_162 rp b0_162 apc
     go_upto_region 13 with fail
     generalize wp.alloc (.cells #[.bool fs, .slice fo (Dg.dg 65536 fn).length fc, .int .i64 fe] 31) = W5 at q_163 g_163 z_163 p_163 lpc b0_163 ⊢
     generalize wp.heap.size = PF at lpc hP ⊢
     obtain ⟨x0, x1, x2, x3, x4⟩ := g_163.cs5
     obtain ⟨y0, y1, y2⟩ := lpc.cs3
     go_wp2_with fail
     refine (HI2.out _ _ _ p_163).mono ?_
     rintro z wi ⟨rfl, bbi⟩
     clear x0 x1 x2 x3 x4 y0 y1 y2 HI2
     have q_164 := q_163.later bbi
     have g_164 := g_163.later bbi
     have z_164 := z_163.later bbi
     have p_164 := p_163.later bbi
     have c_164 := lpc.later bbi
     have b0_164 := below_trans b0_163 bbi
     clear q_163 g_163 z_163 p_163 lpc b0_163 bbi
     cases fi
     ·replace R3 : Hid _ := R3.out rfl
      replace R4 : Hid _ := R4.out rfl
      clear R2 HC HP2 hF p_164
      have p0 := c_164.cell 0 rfl
      have o0 := c_164.free 0
      have p1 := c_164.cell 1 rfl
      have o1 := c_164.free 1
      have p2 := c_164.cell 2 rfl
      have o2 := c_164.free 2
      have qold := q_164
      obtain ⟨yy0, yy1, yy2⟩ := qold.cs3
      have rone : Rd (wi.alloc (.cells #[.int .i64 1] 3)) .i64 (.slice (some ⟨wi.heap.size, 0, none⟩) 1 1) [1] := rd_new (w := wi) (k := .i64) (e := 3) [1] #[.int .i64 1] rfl (by unfold maxLen; simp)
      have bone := below_alloc wi (.cells #[.int .i64 1] 3)
      have q_201 := q_164.later bone
      have g_201 := g_164.later bone
      have z_201 := z_164.later bone
      have c_201 := c_164.later bone
      have b0_201 := below_trans b0_164 bone
      clear q_164 g_164 z_164 c_164 b0_164 bone
      go_wp2_with fail
      refine (HP1.out _ _ _ b0_201 rone).mono ?_
      rintro z wp ⟨vp, rfl, rp, fp, bbp⟩
      obtain ⟨co, cc, hvp⟩ := rp.shape
      subst hvp
      simp only at rp fp ⊢
      clear rone qold yy0 yy1 yy2
      have hF : Hid (Far w.heap.size (.slice co (Dg.dg 65536 cn).length cc)) := fp.mono b0_201.size
      have hlt := c_201.lt
      have q_202 := q_201.later bbp
      have g_202 := g_201.later bbp
      have z_202 := z_201.later bbp
      have c_202 := c_201.later bbp
      have b0_202 := below_trans b0_201 bbp
      clear q_201 g_201 z_201 c_201 b0_201 bbp
      have u0 := c_202.cell 0 rfl
      have v0 := c_202.free 0
      have u1 := c_202.cell 1 rfl
      have v1 := c_202.free 1
      have u2 := c_202.cell 2 rfl
      have v2 := c_202.free 2
      go_upto_region 16 with fail
      have bu := ((but_set wp PF 0 (.bool cs)).trans (but_set _ PF 1 (.slice co (Dg.dg 65536 cn).length cc))).trans (but_set _ PF 2 (.int .i64 ce))
      have q6 := bu.loc q_202 (by omega)
      have g6 := bu.loc g_202 (by omega)
      have z6 := bu.loc z_202 (by omega)
      have c6 : LocE (((wp.setCell ⟨PF, 0, none⟩ (.bool cs)).setCell ⟨PF, 1, none⟩ (.slice co (Dg.dg 65536 cn).length cc)).setCell ⟨PF, 2, none⟩ (.int .i64 ce)) PF 31 [.bool cs, .slice co (Dg.dg 65536 cn).length cc, .int .i64 ce] := ((c_202.set 0 (.bool cs)).set 1 (.slice co (Dg.dg 65536 cn).length cc)).set 2 (.int .i64 ce)
      have r6 := bu.rd rp (far_off fp hlt)
      have b6 := bu.below b0_202 (by omega)
      generalize (((wp.setCell ⟨PF, 0, none⟩ (.bool cs)).setCell ⟨PF, 1, none⟩ (.slice co (Dg.dg 65536 cn).length cc)).setCell ⟨PF, 2, none⟩ (.int .i64 ce)) = W6 at q6 g6 z6 c6 r6 b6 ⊢
      clear q_202 g_202 z_202 c_202 rp b0_202 bu fp hlt p0 p1 p2 o0 o1 o2 u0 u1 u2 v0 v1 v2
      obtain ⟨x0, x1, x2, x3, x4⟩ := g6.cs5
      obtain ⟨y0, y1, y2⟩ := c6.cs3
      go_wp2_with fail
      refine (HI1.out _ _ _ r6).mono ?_
      rintro z wj ⟨rfl, bbj⟩
      clear x0 x1 x2 x3 x4 y0 y1 y2 HI1 HP1
      have q_203 := q6.later bbj
      have g_203 := g6.later bbj
      have z_203 := z6.later bbj
      have c_203 := c6.later bbj
      have p_203 := r6.later bbj
      have b0_203 := below_trans b6 bbj
      clear q6 g6 z6 c6 r6 b6 bbj
      cases ic
      ·obtain ⟨h1, h2, h3, h4⟩ := R4.out rfl
       subst h1 h2 h3 h4
       have d0 := z_203.cell 0 rfl
       have f0 := z_203.free 0
       have d1 := z_203.cell 1 rfl
       have f1 := z_203.free 1
       have d2 := z_203.cell 2 rfl
       have f2 := z_203.free 2
       go_wp2
       have bu : But (w.heap.size + 1 + 1) wj (((wj.setCell ⟨w.heap.size + 1 + 1, 0, none⟩ (.bool false)).setCell ⟨w.heap.size + 1 + 1, 1, none⟩ (.slice none 0 0)).setCell ⟨w.heap.size + 1 + 1, 2, none⟩ (.int .i64 0)) := ((but_set wj (w.heap.size + 1 + 1) 0 (.bool false)).trans (but_set _ (w.heap.size + 1 + 1) 1 (.slice none 0 0))).trans (but_set _ (w.heap.size + 1 + 1) 2 (.int .i64 0))
       have cX : LocE (((wj.setCell ⟨w.heap.size + 1 + 1, 0, none⟩ (.bool false)).setCell ⟨w.heap.size + 1 + 1, 1, none⟩ (.slice none 0 0)).setCell ⟨w.heap.size + 1 + 1, 2, none⟩ (.int .i64 0)) (w.heap.size + 1 + 1) 31 [.bool false, .slice none 0 0, .int .i64 0] := ((z_203.set 0 (.bool false)).set 1 (.slice none 0 0)).set 2 (.int .i64 0)
       have bX := bu.below b0_203 (show w.heap.size ≤ w.heap.size + 1 + 1 by omega)
       obtain ⟨s0, s1, s2⟩ := cX.cs3
       refine bodyPost_ret (v := .tuple #[.agg #[.bool false, .slice none 0 0, .int .i64 0], .bool true]) (by simp [results, Tryz.results16, go_sem, s0, s1, s2]) rfl ?_
       exact ⟨_, rfl, rd_nil _ _, (fun a n c hv => by cases hv), bX⟩
      ·obtain ⟨h1, h2, h3, h4⟩ := R3.out rfl
       subst h1 h2 h3 h4
       obtain ⟨y0, y1, y2⟩ := c_203.cs3
       have d0 := z_203.cell 0 rfl
       have f0 := z_203.free 0
       have d1 := z_203.cell 1 rfl
       have f1 := z_203.free 1
       have d2 := z_203.cell 2 rfl
       have f2 := z_203.free 2
       go_wp2
       have bu : But (w.heap.size + 1 + 1) wj (((wj.setCell ⟨w.heap.size + 1 + 1, 0, none⟩ (.bool cs)).setCell ⟨w.heap.size + 1 + 1, 1, none⟩ (.slice co (Dg.dg 65536 cn).length cc)).setCell ⟨w.heap.size + 1 + 1, 2, none⟩ (.int .i64 ce)) := ((but_set wj (w.heap.size + 1 + 1) 0 (.bool cs)).trans (but_set _ (w.heap.size + 1 + 1) 1 (.slice co (Dg.dg 65536 cn).length cc))).trans (but_set _ (w.heap.size + 1 + 1) 2 (.int .i64 ce))
       have cX : LocE (((wj.setCell ⟨w.heap.size + 1 + 1, 0, none⟩ (.bool cs)).setCell ⟨w.heap.size + 1 + 1, 1, none⟩ (.slice co (Dg.dg 65536 cn).length cc)).setCell ⟨w.heap.size + 1 + 1, 2, none⟩ (.int .i64 ce)) (w.heap.size + 1 + 1) 31 [.bool cs, .slice co (Dg.dg 65536 cn).length cc, .int .i64 ce] := ((z_203.set 0 (.bool cs)).set 1 (.slice co (Dg.dg 65536 cn).length cc)).set 2 (.int .i64 ce)
       have bX := bu.below b0_203 (show w.heap.size ≤ w.heap.size + 1 + 1 by omega)
       have rX := bu.rd p_203 (rd_offE p_203 (Dg.norm_dg _ _ (by omega)) z_203 z3_zero)
       obtain ⟨s0, s1, s2⟩ := cX.cs3
       refine bodyPost_ret (v := .tuple #[.agg #[.bool cs, .slice co (Dg.dg 65536 cn).length cc, .int .i64 ce], .bool true]) (by simp [results, Tryz.results16, go_sem, s0, s1, s2]) rfl ?_
       exact ⟨_, rfl, rX, hF.out, bX⟩
     ·obtain ⟨h1, h2, h3, h4⟩ := R2.out rfl
      subst h1 h2 h3 h4
      clear R2 R3 R4 HP1 HP2 HI1
      obtain ⟨x0, x1, x2⟩ := q_164.cs3
      obtain ⟨y0, y1, y2⟩ := c_164.cs3
      go_wp2_with fail
      refine (HC.out _ _ _ b0_164 p_164).mono ?_
      rintro z wj ⟨rfl, bbj⟩
      clear x0 x1 x2 y0 y1 y2 HC
      have q_261 := q_164.later bbj
      have g_261 := g_164.later bbj
      have z_261 := z_164.later bbj
      have p_261 := p_164.later bbj
      have c_261 := c_164.later bbj
      have b0_261 := below_trans b0_164 bbj
      clear q_164 g_164 z_164 p_164 c_164 b0_164 bbj
      obtain ⟨y0, y1, y2⟩ := c_261.cs3
      have d0 := z_261.cell 0 rfl
      have f0 := z_261.free 0
      have d1 := z_261.cell 1 rfl
      have f1 := z_261.free 1
      have d2 := z_261.cell 2 rfl
      have f2 := z_261.free 2
      go_wp2
      have bu : But (w.heap.size + 1 + 1) wj (((wj.setCell ⟨w.heap.size + 1 + 1, 0, none⟩ (.bool fs)).setCell ⟨w.heap.size + 1 + 1, 1, none⟩ (.slice fo (Dg.dg 65536 fn).length fc)).setCell ⟨w.heap.size + 1 + 1, 2, none⟩ (.int .i64 fe)) := ((but_set wj (w.heap.size + 1 + 1) 0 (.bool fs)).trans (but_set _ (w.heap.size + 1 + 1) 1 (.slice fo (Dg.dg 65536 fn).length fc))).trans (but_set _ (w.heap.size + 1 + 1) 2 (.int .i64 fe))
      have cX : LocE (((wj.setCell ⟨w.heap.size + 1 + 1, 0, none⟩ (.bool fs)).setCell ⟨w.heap.size + 1 + 1, 1, none⟩ (.slice fo (Dg.dg 65536 fn).length fc)).setCell ⟨w.heap.size + 1 + 1, 2, none⟩ (.int .i64 fe)) (w.heap.size + 1 + 1) 31 [.bool fs, .slice fo (Dg.dg 65536 fn).length fc, .int .i64 fe] := ((z_261.set 0 (.bool fs)).set 1 (.slice fo (Dg.dg 65536 fn).length fc)).set 2 (.int .i64 fe)
      have bX := bu.below b0_261 (show w.heap.size ≤ w.heap.size + 1 + 1 by omega)
      have rX := bu.rd p_261 (rd_offE p_261 (Dg.norm_dg _ _ (by omega)) z_261 z3_zero)
      obtain ⟨s0, s1, s2⟩ := cX.cs3
      refine bodyPost_ret (v := .tuple #[.agg #[.bool fs, .slice fo (Dg.dg 65536 fn).length fc, .int .i64 fe], .bool true]) (by simp [results, Tryz.results16, go_sem, s0, s1, s2]) rfl ?_
      exact ⟨_, rfl, rX, hF.out, bX⟩
end Go.Proofs.YtiiphandhpilgaaGreatDoor

/-
  Texts laid together: Bl27, Bl29.
-/
import Derived.Test.YtmjhlflemfkflaaGreatDoorBs
import Derived.Test.YtmjhlflemfkflaaGreatDoorBb
import Derived.Deep.RegionHeld3
import Derived.Test.YtmjhlflemfkflaaGreatDoorBg
import Derived.Test.YtmjhlflemfkflaaGreatDoorBu
/-
  Balls: contract of ball.Join.
-/
namespace Go.Proofs.YtmjhlflemfkflaaGreatDoor
open Go.RowKit

set_option maxRecDepth 100000 in
set_option maxHeartbeats 1600000 in
theorem bjoinW_any (s : Bool) (ao : Option Addr) (ca la : Nat) (e : Int) (t : Bool) (bo : Option Addr) (cb lb : Nat) (f : Int) (r : Bool) (co : Option Addr) (cc lc : Nat) (g : Int) (u : Bool) (d' : Option Addr) (cd ld : Nat) (k : Int) (n : Int) (c : Int) (R : Trip × Trip × Int) (w : World)
    (HW : ∀ b w1, Below w.heap.size w w1 → w1.cell? ⟨b, 0, none⟩ = some (.bool s) ∧ w1.cell? ⟨b, 1, none⟩ = some (.slice ao la ca) ∧ w1.cell? ⟨b, 2, none⟩ = some (.int .i64 e) ∧ w1.cell? ⟨b, 3, none⟩ = some (.bool t) ∧ w1.cell? ⟨b, 4, none⟩ = some (.slice bo lb cb) ∧ w1.cell? ⟨b, 5, none⟩ = some (.int .i64 f) ∧ w1.cell? ⟨b, 6, none⟩ = some (.bool r) ∧ w1.cell? ⟨b, 7, none⟩ = some (.slice co lc cc) ∧ w1.cell? ⟨b, 8, none⟩ = some (.int .i64 g) ∧ w1.cell? ⟨b, 9, none⟩ = some (.bool u) ∧ w1.cell? ⟨b, 10, none⟩ = some (.slice d' ld cd) ∧ w1.cell? ⟨b, 11, none⟩ = some (.int .i64 k) → Calls Tryz.prog 24 #[.int .i64 n, .slice (some ⟨b, 0, none⟩) 2 2] w1 fun z w' => z = .returned (.int .i64 c) ∧ Below w1.heap.size w1 w')
    (HL : c = 0 → ∀ w1, Below w.heap.size w w1 → Calls Tryz.prog 27 #[.int .i64 n, .slice (some ⟨w1.heap.size, 0, none⟩) 4 4] (w1.alloc (.cells #[.bool s, .slice ao la ca, .int .i64 e, .bool t, .slice bo lb cb, .int .i64 f, .bool r, .slice co lc cc, .int .i64 g, .bool u, .slice d' ld cd, .int .i64 k] 66)) (BOwn (w1.alloc (.cells #[.bool s, .slice ao la ca, .int .i64 e, .bool t, .slice bo lb cb, .int .i64 f, .bool r, .slice co lc cc, .int .i64 g, .bool u, .slice d' ld cd, .int .i64 k] 66)) R)) :
    Calls Tryz.prog 21 #[.agg #[.bool s, .slice ao la ca, .int .i64 e, .bool t, .slice bo lb cb, .int .i64 f], .agg #[.bool r, .slice co lc cc, .int .i64 g, .bool u, .slice d' ld cd, .int .i64 k], .int .i64 n] w (BOwn w (if c = 0 then R else (⟨false, 0, 0⟩, ⟨false, 0, 0⟩, c))) := by
  have HHW : Hid _ := HW
  have HHL : Hid _ := HL
  clear HW HL
  have l1 := ((loc6_new w (.bool s) (.slice ao la ca) (.int .i64 e) (.bool t) (.slice bo lb cb) (.int .i64 f) 27).later (below_alloc _ (.cells #[.bool r, .slice co lc cc, .int .i64 g, .bool u, .slice d' ld cd, .int .i64 k] 27))).later (below_alloc _ (.cells #[.bool false, .slice none 0 0, .int .i64 0, .bool false, .slice none 0 0, .int .i64 0] 27))
  have m1 := (loc6_new (w.alloc (.cells #[.bool s, .slice ao la ca, .int .i64 e, .bool t, .slice bo lb cb, .int .i64 f] 27)) (.bool r) (.slice co lc cc) (.int .i64 g) (.bool u) (.slice d' ld cd) (.int .i64 k) 27).later (below_alloc _ (.cells #[.bool false, .slice none 0 0, .int .i64 0, .bool false, .slice none 0 0, .int .i64 0] 27))
  have k1 := loc6_new ((w.alloc (.cells #[.bool s, .slice ao la ca, .int .i64 e, .bool t, .slice bo lb cb, .int .i64 f] 27)).alloc (.cells #[.bool r, .slice co lc cc, .int .i64 g, .bool u, .slice d' ld cd, .int .i64 k] 27)) (.bool false) (.slice none 0 0) (.int .i64 0) (.bool false) (.slice none 0 0) (.int .i64 0) 27
  have b1 := below_trans (below_trans (below_alloc w (.cells #[.bool s, .slice ao la ca, .int .i64 e, .bool t, .slice bo lb cb, .int .i64 f] 27)) (below_alloc _ (.cells #[.bool r, .slice co lc cc, .int .i64 g, .bool u, .slice d' ld cd, .int .i64 k] 27))) (below_alloc _ (.cells #[.bool false, .slice none 0 0, .int .i64 0, .bool false, .slice none 0 0, .int .i64 0] 27))
  simp only [World.size_alloc] at m1 k1
  have bs := below_alloc (((w.alloc (.cells #[.bool s, .slice ao la ca, .int .i64 e, .bool t, .slice bo lb cb, .int .i64 f] 27)).alloc (.cells #[.bool r, .slice co lc cc, .int .i64 g, .bool u, .slice d' ld cd, .int .i64 k] 27)).alloc (.cells #[.bool false, .slice none 0 0, .int .i64 0, .bool false, .slice none 0 0, .int .i64 0] 27)) (.cells #[.bool s, .slice ao la ca, .int .i64 e, .bool t, .slice bo lb cb, .int .i64 f, .bool r, .slice co lc cc, .int .i64 g, .bool u, .slice d' ld cd, .int .i64 k] 27)
  have l2 := l1.later bs
  have m2 := m1.later bs
  have k2 := k1.later bs
  have b2 := below_trans b1 bs
  have HW2 := HHW.out (w.heap.size + 1 + 1 + 1) _ b2 (by refine ⟨?_, ?_, ?_, ?_, ?_, ?_, ?_, ?_, ?_, ?_, ?_, ?_⟩ <;> (rw [World.cell?_alloc_at _ _ _ _ (by simp only [World.size_alloc])]; rfl))
  clear l1 m1 k1 b1 bs HHW
  by_cases hc : c = 0
  · subst hc
    rw [if_pos rfl]
    have HHL := HHL.out rfl
    have HL : Hid _ := HHL
    clear HHL
    obtain ⟨⟨rs, rn, re⟩, ⟨qs, qn, qe⟩, rc⟩ := R
    go_enter Tryz.func21, Tryz.ntmps21
    go_wp2_with fail
    refine HW2.mono ?_
    rintro z w3 ⟨rfl, b3⟩
    have bd : Below w3.heap.size w3 w3.drew := (Below.refl _ _).drew
    have pl4 := (l2.later b3).later bd
    have pm4 := (m2.later b3).later bd
    have pk4 := (k2.later b3).later bd
    have b04 := below_trans (below_trans b2 b3) bd
    clear l2 m2 k2 b2 b3 HW2 bd
    obtain ⟨-, ⟨c0, c1, c2, c3, c4, c5⟩, -⟩ := id pl4
    obtain ⟨-, ⟨d0, d1, d2, d3, d4, d5⟩, -⟩ := id pm4
    have ne1 : w.heap.size + 1 + 1 ≠ w.heap.size := by omega
    have ne2 : w.heap.size + 1 + 1 ≠ w.heap.size + 1 := by omega
    go_wp2_with fail
    go_region_held3 (fun wq => (wq.cell? ⟨w.heap.size, 0, none⟩ = some (.bool s) ∧ wq.cell? ⟨w.heap.size, 1, none⟩ = some (.slice ao la ca) ∧ wq.cell? ⟨w.heap.size, 2, none⟩ = some (.int .i64 e) ∧ wq.cell? ⟨w.heap.size, 3, none⟩ = some (.bool t) ∧ wq.cell? ⟨w.heap.size, 4, none⟩ = some (.slice bo lb cb) ∧ wq.cell? ⟨w.heap.size, 5, none⟩ = some (.int .i64 f)) ∧ wq.cell? ⟨w.heap.size + 1, 0, none⟩ = some (.bool r) ∧ wq.cell? ⟨w.heap.size + 1, 1, none⟩ = some (.slice co lc cc) ∧ wq.cell? ⟨w.heap.size + 1, 2, none⟩ = some (.int .i64 g) ∧ wq.cell? ⟨w.heap.size + 1, 3, none⟩ = some (.bool u) ∧ wq.cell? ⟨w.heap.size + 1, 4, none⟩ = some (.slice d' ld cd) ∧ wq.cell? ⟨w.heap.size + 1, 5, none⟩ = some (.int .i64 k)) (go_keep) (first
      | (go_at_call 25; have hgd := b04; clear hgd; refine (of_dy s ao la ca e _).mono ?_; rintro z wa ⟨rfl, ba1⟩; have b0a := below_trans b04 ba1; have pla := pl4.later ba1; have pma := pm4.later ba1; have pka := pk4.later ba1; obtain ⟨-, ⟨ca0, ca1, ca2, ca3, ca4, ca5⟩, -⟩ := id pla; obtain ⟨-, ⟨da0, da1, da2, da3, da4, da5⟩, -⟩ := id pma; clear b04)
      | (go_at_call 25; have hgd := b0a; clear hgd; refine (of_dy t bo lb cb f _).mono ?_; rintro z wb ⟨rfl, bb1⟩; have b0b := below_trans b0a bb1; have plb := pla.later bb1; have pmb := pma.later bb1; have pkb := pka.later bb1; obtain ⟨-, ⟨cb0, cb1, cb2, cb3, cb4, cb5⟩, -⟩ := id plb; obtain ⟨-, ⟨db0, db1, db2, db3, db4, db5⟩, -⟩ := id pmb; clear b0a)
      | (go_at_call 25; have hgd := b0b; clear hgd; refine (of_dy r co lc cc g _).mono ?_; rintro z wc ⟨rfl, bc1⟩; have b0c := below_trans b0b bc1; have plc := plb.later bc1; have pmc := pmb.later bc1; have pkc := pkb.later bc1; obtain ⟨-, ⟨cc0, cc1, cc2, cc3, cc4, cc5⟩, -⟩ := id plc; obtain ⟨-, ⟨dc0, dc1, dc2, dc3, dc4, dc5⟩, -⟩ := id pmc; clear b0b)
      | (go_at_call 25; have hgd := b0c; clear hgd; refine (of_dy u d' ld cd k _).mono ?_; rintro z wd ⟨rfl, bd1⟩; have b0d := below_trans b0c bd1; have pld := plc.later bd1; have pmd := pmc.later bd1; have pkd := pkc.later bd1; obtain ⟨-, ⟨cd0, cd1, cd2, cd3, cd4, cd5⟩, -⟩ := id pld; obtain ⟨-, ⟨dd0, dd1, dd2, dd3, dd4, dd5⟩, -⟩ := id pmd; clear b0c)
      | (go_at_call 27; have hgd := b0d; clear hgd; have bs := below_alloc wd (.cells #[.bool s, .slice ao la ca, .int .i64 e, .bool t, .slice bo lb cb, .int .i64 f, .bool r, .slice co lc cc, .int .i64 g, .bool u, .slice d' ld cd, .int .i64 k] 66); have b0e := below_trans b0d bs; have ple := pld.later bs; have pme := pmd.later bs; have pke := pkd.later bs; refine (HL.out wd b0d).mono ?_; rintro z wf ⟨pp, qq, rfl, op, oq, bf1⟩; have b0f := below_trans b0e bf1; have plf := ple.later bf1; have pmf := pme.later bf1; have kf := pke.later bf1; have hlt := pke.1; obtain ⟨po, pc, hp⟩ := op.rd.shape; subst hp; obtain ⟨qo, qc, hq⟩ := oq.rd.shape; subst hq; obtain ⟨-, ⟨cf0, cf1, cf2, cf3, cf4, cf5⟩, -⟩ := id plf; obtain ⟨-, ⟨df0, df1, df2, df3, df4, df5⟩, -⟩ := id pmf; obtain ⟨hl, ⟨g0, g1, g2, g3, g4, g5⟩, f0, f1, f2, f3, f4, f5⟩ := id kf; clear b0d))
    all_goals go_wp2
    obtain ⟨-, ⟨u0, u1, u2, u3, u4, u5⟩, -⟩ := loc6_set kf (.bool rs) (.slice po (Dg.dg 4294967296 rn).length pc) (.int .i64 re) (.bool qs) (.slice qo (Dg.dg 4294967296 qn).length qc) (.int .i64 qe)
    have bb := below_set6 b0f (show w.heap.size ≤ w.heap.size + 1 + 1 by omega) (.bool rs) (.slice po (Dg.dg 4294967296 rn).length pc) (.int .i64 re) (.bool qs) (.slice qo (Dg.dg 4294967296 qn).length qc) (.int .i64 qe)
    refine bodyPost_ret (v := .tuple #[.agg #[.bool rs, .slice po (Dg.dg 4294967296 rn).length pc, .int .i64 re, .bool qs, .slice qo (Dg.dg 4294967296 qn).length qc, .int .i64 qe], .int .i64 rc]) (by simp [results, Tryz.results21, go_sem, u0, u1, u2, u3, u4, u5]) rfl ?_
    exact ⟨_, _, rfl, ((op.apart6 hlt _ _ _ _ _ _).lower b0e.size), ((oq.apart6 hlt _ _ _ _ _ _).lower b0e.size), bb⟩
  · rw [if_neg hc]
    go_enter Tryz.func21, Tryz.ntmps21
    go_wp2_with fail
    refine HW2.mono ?_
    rintro z w3 ⟨rfl, b3⟩
    have k3 := k2.later b3
    have b03 := below_trans b2 b3
    clear l2 m2 k2 b2 b3 HW2
    obtain ⟨hl, ⟨v0, v1, v2, v3, v4, v5⟩, f0, f1, f2, f3, f4, f5⟩ := id k3
    go_wp2
    obtain ⟨-, ⟨u0, u1, u2, u3, u4, u5⟩, -⟩ := loc6_set k3 (.bool false) (.slice none 0 0) (.int .i64 0) (.bool false) (.slice none 0 0) (.int .i64 0)
    have bb := below_set6 b03 (show w.heap.size ≤ w.heap.size + 1 + 1 by omega) (.bool false) (.slice none 0 0) (.int .i64 0) (.bool false) (.slice none 0 0) (.int .i64 0)
    refine bodyPost_ret (v := .tuple #[.agg #[.bool false, .slice none 0 0, .int .i64 0, .bool false, .slice none 0 0, .int .i64 0], .int .i64 c]) (by simp [results, Tryz.results21, go_sem, u0, u1, u2, u3, u4, u5]) rfl ?_
    exact ⟨_, _, rfl, own_nil _ _ _ _, own_nil _ _ _ _, bb⟩
end Go.Proofs.YtmjhlflemfkflaaGreatDoor
/-
  Balls: ball.Join of whatever it is handed.
-/
namespace Go.Proofs.YtmjhlflemfkflaaGreatDoor
open Go.RowKit

set_option maxHeartbeats 800000 in
theorem bJoin_ok (s : Bool) (ao : Option Addr) (ca : Nat) (xs : List Nat) (e : Int) (t : Bool) (bo : Option Addr) (cb : Nat) (ys : List Nat) (f : Int) (r : Bool) (co : Option Addr) (cc : Nat) (zs : List Nat) (g : Int) (u : Bool) (d' : Option Addr) (cd : Nat) (us : List Nat) (k : Int) (n : Int) (w : World)
    (ha : Rd w .u32 (.slice ao xs.length ca) xs) (hb : Rd w .u32 (.slice bo ys.length cb) ys) (hc : Rd w .u32 (.slice co zs.length cc) zs) (hd : Rd w .u32 (.slice d' us.length cd) us) (sa : Dg.Small 4294967296 xs) (sb : Dg.Small 4294967296 ys) (sc : Dg.Small 4294967296 zs) (sd : Dg.Small 4294967296 us) (hT : Tab w) :
    Calls Tryz.prog 21 #[.agg #[.bool s, .slice ao xs.length ca, .int .i64 e, .bool t, .slice bo ys.length cb, .int .i64 f], .agg #[.bool r, .slice co zs.length cc, .int .i64 g, .bool u, .slice d' us.length cd, .int .i64 k], .int .i64 n] w
      (BOwn w (if wrong2 n (bchk s xs e t ys f) (bchk r zs g u us k) = 0 then leastR (ends4 ⟨s, Dg.vl 4294967296 xs, e⟩ ⟨t, Dg.vl 4294967296 ys, f⟩ ⟨r, Dg.vl 4294967296 zs, g⟩ ⟨u, Dg.vl 4294967296 us, k⟩) 4 n else (⟨false, 0, 0⟩, ⟨false, 0, 0⟩, wrong2 n (bchk s xs e t ys f) (bchk r zs g u us k)))) := by
  refine bjoinW_any s ao ca xs.length e t bo cb ys.length f r co cc zs.length g u d' cd us.length k n (wrong2 n (bchk s xs e t ys f) (bchk r zs g u us k)) _ w (fun b w1 b1 h => bwrong2_ok n b s ao ca xs e t bo cb ys f r co cc zs g u d' cd us k w ha hb hc hd sa sb sc sd w1 b1 h) (fun h0 w1 b1 => ?_)
  obtain ⟨q1, q2, n1, n2⟩ := wrong2_zero h0
  obtain ⟨i1, i2, _⟩ := bchk_zero q1
  obtain ⟨d1, d2, _⟩ := bchk_zero q2
  obtain ⟨v1, v2, v3, v4, v5⟩ := num_ok i1 sa
  obtain ⟨u1, u2, u3, u4, u5⟩ := num_ok i2 sb
  obtain ⟨z1, z2, z3, z4, z5⟩ := num_ok d1 sc
  obtain ⟨y1, y2, y3, y4, y5⟩ := num_ok d2 sd
  have FA := ends4_all ⟨s, Dg.vl 4294967296 xs, e⟩ ⟨t, Dg.vl 4294967296 ys, f⟩ ⟨r, Dg.vl 4294967296 zs, g⟩ ⟨u, Dg.vl 4294967296 us, k⟩ (fun T => (Dg.dg 4294967296 T.n).length ≤ 9000 ∧ -100000 ≤ T.e ∧ T.e ≤ 100000) ⟨by show (Dg.dg 4294967296 (Dg.vl 4294967296 xs)).length ≤ 9000; rw [v2]; omega, by show -100000 ≤ e; omega, by show e ≤ 100000; omega⟩ ⟨by show (Dg.dg 4294967296 (Dg.vl 4294967296 ys)).length ≤ 9000; rw [u2]; omega, by show -100000 ≤ f; omega, by show f ≤ 100000; omega⟩ ⟨by show (Dg.dg 4294967296 (Dg.vl 4294967296 zs)).length ≤ 9000; rw [z2]; omega, by show -100000 ≤ g; omega, by show g ≤ 100000; omega⟩ ⟨by show (Dg.dg 4294967296 (Dg.vl 4294967296 us)).length ≤ 9000; rw [y2]; omega, by show -100000 ≤ k; omega, by show k ≤ 100000; omega⟩
  exact bleast_ok n w1.heap.size 4 (ends4 ⟨s, Dg.vl 4294967296 xs, e⟩ ⟨t, Dg.vl 4294967296 ys, f⟩ ⟨r, Dg.vl 4294967296 zs, g⟩ ⟨u, Dg.vl 4294967296 us, k⟩) (sel4 ao bo co d') (sel4 ca cb cc cd) _ (by omega) (by omega) (by simp [World.size_alloc]) (fun j hj => match j, hj with
    | 0, _ => ⟨by rw [World.cell?_alloc_at _ _ _ _ rfl]; rfl, by show _ = some (Value.slice _ (Dg.dg 4294967296 (Dg.vl 4294967296 xs)).length _); rw [v2, World.cell?_alloc_at _ _ _ _ rfl]; rfl, by rw [World.cell?_alloc_at _ _ _ _ rfl]; rfl, by show Rd _ _ (Value.slice _ (Dg.dg 4294967296 (Dg.vl 4294967296 xs)).length _) (Dg.dg 4294967296 (Dg.vl 4294967296 xs)); rw [v2]; exact ha.later (below_trans b1 (below_alloc _ _))⟩
    | 1, _ => ⟨by rw [World.cell?_alloc_at _ _ _ _ rfl]; rfl, by show _ = some (Value.slice _ (Dg.dg 4294967296 (Dg.vl 4294967296 ys)).length _); rw [u2, World.cell?_alloc_at _ _ _ _ rfl]; rfl, by rw [World.cell?_alloc_at _ _ _ _ rfl]; rfl, by show Rd _ _ (Value.slice _ (Dg.dg 4294967296 (Dg.vl 4294967296 ys)).length _) (Dg.dg 4294967296 (Dg.vl 4294967296 ys)); rw [u2]; exact hb.later (below_trans b1 (below_alloc _ _))⟩
    | 2, _ => ⟨by rw [World.cell?_alloc_at _ _ _ _ rfl]; rfl, by show _ = some (Value.slice _ (Dg.dg 4294967296 (Dg.vl 4294967296 zs)).length _); rw [z2, World.cell?_alloc_at _ _ _ _ rfl]; rfl, by rw [World.cell?_alloc_at _ _ _ _ rfl]; rfl, by show Rd _ _ (Value.slice _ (Dg.dg 4294967296 (Dg.vl 4294967296 zs)).length _) (Dg.dg 4294967296 (Dg.vl 4294967296 zs)); rw [z2]; exact hc.later (below_trans b1 (below_alloc _ _))⟩
    | 3, _ => ⟨by rw [World.cell?_alloc_at _ _ _ _ rfl]; rfl, by show _ = some (Value.slice _ (Dg.dg 4294967296 (Dg.vl 4294967296 us)).length _); rw [y2, World.cell?_alloc_at _ _ _ _ rfl]; rfl, by rw [World.cell?_alloc_at _ _ _ _ rfl]; rfl, by show Rd _ _ (Value.slice _ (Dg.dg 4294967296 (Dg.vl 4294967296 us)).length _) (Dg.dg 4294967296 (Dg.vl 4294967296 us)); rw [y2]; exact hd.later (below_trans b1 (below_alloc _ _))⟩) n1 n2 (fun j _ => (FA j).1) (fun j _ => (FA j).2.1) (fun j _ => (FA j).2.2) (hT.later (below_trans b1 (below_alloc _ _)))
end Go.Proofs.YtmjhlflemfkflaaGreatDoor

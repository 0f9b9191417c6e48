/-
  Texts laid together: Ar2, Ar3, Ar4, Ar5, Ar6.
-/
import Derived.Maps.AppendAt
import Derived.Test.YtiiphandhpilgaaGreatDoorNd45
set_option maxRecDepth 100000
namespace Go.Proofs.YtiiphandhpilgaaGreatDoor
open Go.RowKit
def opT (n : Int) (p : ByteArray) : Trip := if patC n p = 0 then nxT n.toNat p else ⟨false, 0, 0⟩
def opC (n : Int) (p : ByteArray) (v : Value) : List Value := [.int .i64 ((decC n p : Nat) : Int), .bool (decG n p), .bool (opT n p).s, v, .int .i64 (opT n p).e]
def OpAt (w : World) (n : Int) (g : Option Nat) (p : ByteArray) (v : Value) : Prop :=
 (∃ so sc, v = .slice so (Dg.dg 4294967296 (opT n p).n).length sc) ∧ Rd w .u32 v (Dg.dg 4294967296 (opT n p).n) ∧ ∀ b, g = some b → OffB b v (Dg.dg 4294967296 (opT n p).n)
def OpsAt (w : World) (n : Int) (g : Option Nat) : List ByteArray → List Value → Prop
 | [], cs => cs = []
 | p :: ps, cs => ∃ v rest, cs = opC n p v ++ rest ∧ OpAt w n g p v ∧ OpsAt w n g ps rest
theorem OpsAt.mono {w w' : World} {n : Int} {g g' : Option Nat} (h : ∀ p v, OpAt w n g p v → OpAt w' n g' p v) : ∀ {ps : List ByteArray} {cs : List Value}, OpsAt w n g ps cs → OpsAt w' n g' ps cs
 | [], _, hc => hc
 | p :: _, _, hc => by
  obtain ⟨v, rest, h1, h2, h3⟩ := hc
  exact ⟨v, rest, h1, h p v h2, OpsAt.mono h h3⟩
theorem OpsAt.snoc {w : World} {n : Int} {g : Option Nat} {p : ByteArray} {v : Value} (hv : OpAt w n g p v) : ∀ {ps : List ByteArray} {cs : List Value}, OpsAt w n g ps cs → OpsAt w n g (ps ++ [p]) (cs ++ opC n p v)
 | [], cs, hc => by
  have : cs = [] := hc
  subst this
  exact ⟨v, [], by simp, hv, rfl⟩
 | q :: _, _, hc => by
  obtain ⟨u, rest, h1, h2, h3⟩ := hc
  subst h1
  exact ⟨u, rest ++ opC n p v, by simp, h2, OpsAt.snoc hv h3⟩
def errL (n : Int) : List ByteArray → Int
 | [] => 0
 | p :: ps => if patC n p = 0 then errL n ps else patC n p
def OpsRes (w : World) (n : Int) (ps : List ByteArray) (z : Ending) (w' : World) : Prop :=
 (errL n ps = 0 ∧ ∃ v cs, z = .returned (.tuple #[v, .int .i64 0]) ∧ w'.ownsRow w.heap.size 110 5 v ps.length cs ∧ OpsAt w' n v.ownBlock ps cs ∧ Below w.heap.size w w') ∨
 (errL n ps ≠ 0 ∧ z = .returned (.tuple #[.slice none 0 0, .int .i64 (errL n ps)]) ∧ Below w.heap.size w w')
def OpsI (w : World) (n : Int) (ps : List ByteArray) (i : Nat) (lv : Value) (wr : World) : Prop :=
 ∃ cs, wr.ownsRow (w.heap.size + 1) 110 5 lv i cs ∧ OpsAt wr n lv.ownBlock (ps.take i) cs ∧ errL n ps = errL n (ps.drop i)
theorem own_row_later {w w' : World} {base e size k : Nat} {v : Value} {xs : List Value} (h : w.ownsRow base e size v k xs) (hb : Below w.heap.size w w') : w'.ownsRow base e size v k xs := by
 obtain ⟨hl, h2⟩ := h
 refine ⟨hl, ?_⟩
 rcases h2 with h2 | ⟨g, cap, cur, hv, hbg, hh, r⟩
 ·exact .inl h2
 ·refine .inr ⟨g, cap, cur, hv, hbg, ?_, r⟩
  rw [hb.block g ?_]
  ·exact hh
  ·rw [Array.getElem?_eq_some_iff] at hh
   exact hh.1
theorem OpAt.later {w w' : World} {n : Int} {g : Option Nat} {p : ByteArray} {v : Value} (h : OpAt w n g p v) (hb : Below w.heap.size w w') : OpAt w' n g p v := ⟨h.1, h.2.1.later hb, h.2.2⟩
theorem OpsI.later {w wr w' : World} {n : Int} {ps : List ByteArray} {i : Nat} {lv : Value} (h : OpsI w n ps i lv wr) (hb : Below wr.heap.size wr w') : OpsI w n ps i lv w' := by
 obtain ⟨cs, h1, h2, h3⟩ := h
 exact ⟨cs, own_row_later h1 hb, h2.mono (fun p v k => k.later hb), h3⟩
theorem rd_grown {w w' : World} {g : Nat} {k : IntKind} {v : Value} {zs : List Nat} (r : Rd w k v zs) (hg : w.grownBy w' (some g)) (ho : OffB g v zs) : Rd w' k v zs := by
 obtain ⟨ao, cap, rfl, h1, h2, h3⟩ := r
 refine ⟨ao, cap, rfl, h1, h2, fun hp => ?_⟩
 obtain ⟨b, off, rfl, h4⟩ := h3 hp
 refine ⟨b, off, rfl, fun i hi => ?_⟩
 have h5 := h4 i hi
 have hlt : b < w.heap.size := World.block_lt_of_cell? w _ h5
 have hne : b ≠ g := ho hp _ _ _ rfl
 rw [← h5]
 unfold World.cell?
 simp only
 rw [hg.block b hlt (fun e => hne (Option.some.inj e))]
theorem LocE.grownO {w w' : World} {b : Nat} {ty : TypeId} {vs : List Value} {row : Option Nat} (h : LocE w b ty vs) (hg : w.grownBy w' row) (hne : ∀ g, row = some g → b ≠ g) : LocE w' b ty vs :=
 (hg.block b h.lt (fun e => hne b e.symm rfl)).trans h
theorem own_row_wider {w : World} {base base' e size k : Nat} {v : Value} {xs : List Value} (h : w.ownsRow base e size v k xs) (hb : base' ≤ base) : w.ownsRow base' e size v k xs := by
 obtain ⟨hl, h2⟩ := h
 refine ⟨hl, ?_⟩
 rcases h2 with h2 | ⟨g, cap, cur, hv, hbg, r⟩
 ·exact .inl h2
 ·exact .inr ⟨g, cap, cur, hv, Nat.le_trans hb hbg, r⟩
theorem ops_more {w w1 w2 : World} {n : Int} {ps : List ByteArray} {i : Nat} {lv v' x : Value} {p : ByteArray} {cs : List Value} (hp : ps[i]? = some p) (he : patC n p = 0) (h2 : OpsAt w1 n lv.ownBlock (ps.take i) cs) (h3 : errL n ps = errL n (ps.drop i)) (hx : OpAt w1 n lv.ownBlock p x)
  (hown : w2.ownsRow (w.heap.size + 1) 110 5 v' (i + 1) (cs ++ opC n p x)) (hg : w1.grownBy w2 lv.ownBlock) (hat : v'.ownBlock = lv.ownBlock ∨ v'.ownBlock = some w1.heap.size) :
  OpsI w n ps (i + 1) v' w2 := by
 have hil : i < ps.length := by
  rw [List.getElem?_eq_some_iff] at hp
  exact hp.1
 have hm : ∀ q v, OpAt w1 n lv.ownBlock q v → OpAt w2 n v'.ownBlock q v := fun q v k => by
  obtain ⟨k1, k2, k3⟩ := k
  refine ⟨k1, ?_, ?_⟩
  ·obtain ⟨so, sc, rfl⟩ := k1
   cases hb : lv.ownBlock with
   | none => exact k2.later ⟨hg.os, hg.tape, hg.output, hg.size, fun j hj => hg.block j hj (by rw [hb]; exact fun e => nomatch e)⟩
   | some b => exact rd_grown k2 (hb ▸ hg) (k3 b hb)
  ·intro b hb
   rcases hat with e | e
   ·exact k3 b (by rw [← e]; exact hb)
   ·have hbw : b = w1.heap.size := by rw [e] at hb; exact (Option.some.inj hb).symm
    exact rd_offNew k2 (by omega)
 refine ⟨_, hown, ?_, ?_⟩
 ·rw [List.take_add_one, hp]
  exact (h2.mono hm).snoc (hm p x hx)
 ·rw [h3]
  have hd : ps.drop i = p :: ps.drop (i + 1) := by
   rw [List.drop_eq_getElem_cons hil]
   congr 1
   rw [List.getElem?_eq_getElem hil] at hp
   exact Option.some.inj hp
  rw [hd]
  exact if_pos he
end Go.Proofs.YtiiphandhpilgaaGreatDoor
namespace Go.Proofs.YtiiphandhpilgaaGreatDoor
open Go.RowKit
set_option maxHeartbeats 12800000 in
theorem operands_W (n wy fam R D L G : Int) (gr : Bool) (ps : List ByteArray) (pb : Nat) (w : World) (hps : LocE w pb 9 (ps.map Value.string)) (hm : ps.length ≤ 3)
  (HR : ∀ p w1, Below w.heap.size w w1 → Calls Tryz.prog 78 #[.int .i64 n, .string p] w1 (WRes w1 ((decC n p : Nat) : Int) (decG n p) (decM n p) (decP n p) (opT n p) (patC n p))) :
  Calls Tryz.prog 50 #[.agg #[.int .i64 n, .int .i64 wy, .int .i64 fam, .int .i64 R, .int .i64 D, .int .i64 L, .int .i64 G, .bool gr], .slice (some ⟨pb, 0, none⟩) ps.length ps.length] w (OpsRes w n ps) := by
 replace HR : Hid _ := HR
 obtain ⟨i0, hi, hz0, hz1, hz2⟩ := info_parts (show (Tryz.prog.info? 110).map (fun i => (i.zero, i.size, i.bytes)) = some (some (.agg #[.int .i64 0, .bool false, .bool false, .slice none 0 0, .int .i64 0]), 5, 56) by kernel_rfl)
 have HI : Hid (_ ∧ _ ∧ _ ∧ _) := ⟨hi, hz0, hz1, hz2⟩
 have hpb := hps.lt
 have bd0 := below_alloc w (.cells #[.int .i64 n, .int .i64 wy, .int .i64 fam, .int .i64 R, .int .i64 D, .int .i64 L, .int .i64 G, .bool gr] 100)
 have d0 := locE_new w [.int .i64 n, .int .i64 wy, .int .i64 fam, .int .i64 R, .int .i64 D, .int .i64 L, .int .i64 G, .bool gr] 100
 have s0 := hps.later bd0
 obtain ⟨m, hmE⟩ : ∃ m, ps.length = m := ⟨_, rfl⟩
 rw [hmE] at hm ⊢
 have HM : Hid (ps.length = m) := hmE
 clear hps hmE hi hz0 hz1 hz2
 go_enter Tryz.func50, Tryz.ntmps50
 go_wp2
 go_loopw [6, 14] (fun lv iv wr => ∃ i : Nat, iv = .int .i64 (i : Int) ∧ i ≤ m ∧ OpsI w n ps i lv wr ∧ Below w.heap.size w wr ∧ LocE wr w.heap.size 100 [.int .i64 n, .int .i64 wy, .int .i64 fam, .int .i64 R, .int .i64 D, .int .i64 L, .int .i64 G, .bool gr] ∧ LocE wr pb 9 (ps.map Value.string)) (fun _ iv _ => m - (intOf iv).toNat)
 case atStart => exact ⟨0, rfl, by omega, ⟨[], World.ownsRow_nil _ _ _ 5, rfl, rfl⟩, bd0, d0, s0⟩
 case round =>
  obtain ⟨i, rfl, him, hO, bel, dl, sl⟩ := hrel
  by_cases hlt : i < m
  ·have hil : i < ps.length := by have := HM.out; omega
   obtain ⟨p, hp⟩ : ∃ p, ps[i]? = some p := ⟨_, List.getElem?_eq_getElem hil⟩
   have y := sl.cell i (v := .string p) (by rw [List.getElem?_map, hp]; rfl)
   have x0 := dl.cell 0 rfl
   have HRp := HR.out p
   obtain ⟨c, ec⟩ : ∃ c : Int, ((decC n p : Nat) : Int) = c := ⟨_, rfl⟩
   obtain ⟨gg, eg⟩ : ∃ c, decG n p = c := ⟨_, rfl⟩
   obtain ⟨m1, em⟩ : ∃ c, decM n p = c := ⟨_, rfl⟩
   obtain ⟨p1, ep⟩ : ∃ c, decP n p = c := ⟨_, rfl⟩
   obtain ⟨t, et⟩ : ∃ c, opT n p = c := ⟨_, rfl⟩
   obtain ⟨er, ee⟩ : ∃ c, patC n p = c := ⟨_, rfl⟩
   rw [ec, eg, em, ep, et, ee] at HRp
   have HP : Hid (ps[i]? = some p ∧ ((decC n p : Nat) : Int) = c ∧ decG n p = gg ∧ opT n p = t ∧ patC n p = er) := ⟨hp, ec, eg, et, ee⟩
   replace HRp : Hid _ := HRp
   clear hp hil ec eg em ep et ee
   go_wp2_with fail
   refine (HRp.out _ bel).mono ?_
   rintro z w1 ⟨v, x, rfl, rv, rx, fx, b1⟩
   obtain ⟨vo, vc, hv⟩ := rv.shape
   subst hv
   obtain ⟨xo, xc, hx⟩ := rx.shape
   subst hx
   have a1 := below_alloc w1 (.cells #[.int .i64 c, .bool gg, .slice vo (Dg.dg 4294967296 m1).length vc, .int .i64 p1] 25)
   have a2 := below_alloc (w1.alloc (.cells #[.int .i64 c, .bool gg, .slice vo (Dg.dg 4294967296 m1).length vc, .int .i64 p1] 25)) (.cells #[.bool t.s, .slice xo (Dg.dg 4294967296 t.n).length xc, .int .i64 t.e] 87)
   have bb := below_trans (below_trans b1 a1) a2
   have q9 := (locE_new w1 [.int .i64 c, .bool gg, .slice vo (Dg.dg 4294967296 m1).length vc, .int .i64 p1] 25).later a2
   have q10 := locE_new (w1.alloc (.cells #[.int .i64 c, .bool gg, .slice vo (Dg.dg 4294967296 m1).length vc, .int .i64 p1] 25)) [.bool t.s, .slice xo (Dg.dg 4294967296 t.n).length xc, .int .i64 t.e] 87
   rw [World.size_alloc] at q10
   have rx1 := (rx.later a1).later a2
   have hO1 := hO.later bb
   have dl1 := dl.later bb
   have sl1 := sl.later bb
   have bel1 := below_trans bel bb
   have hbl : ∀ b, u6.ownBlock = some b → b < wr.heap.size := fun b hb => by
    obtain ⟨cs, h1, -⟩ := hO
    exact (World.ownsRow.lt h1 b hb).2
   have hsz : wr.heap.size ≤ w1.heap.size := b1.size
   have hws : w.heap.size ≤ wr.heap.size := bel.size
   clear b1 a1 a2 bb rv rx hO dl sl bel y x0
   go_upto_region 6 with fail
   generalize (w1.alloc (.cells #[.int .i64 c, .bool gg, .slice vo (Dg.dg 4294967296 m1).length vc, .int .i64 p1] 25)).alloc (.cells #[.bool t.s, .slice xo (Dg.dg 4294967296 t.n).length xc, .int .i64 t.e] 87) = W at q9 q10 rx1 hO1 dl1 sl1 bel1 ⊢
   generalize w1.heap.size = Q at q9 q10 hsz ⊢
   by_cases he : er = 0
   ·subst he
    go_wp2_with fail
    have qd := q9.drew
    have xd := q10.drew
    refine wp_region_held_drew (S := fun wq => wq.rangeAt Q 0 [.int .i64 c, .bool gg, .slice vo (Dg.dg 4294967296 m1).length vc, .int .i64 p1] ∧ wq.rangeAt (Q + 1) 0 [.bool t.s, .slice xo (Dg.dg 4294967296 t.n).length xc, .int .i64 t.e]) (by kernel_rfl) ⟨qd.range, xd.range⟩ (fun hS0 => ?_)
    refine wpAnyH_take (i := 0) (v := u6) rfl (by kernel_rfl) (by kernel_rfl) (by kernel_rfl) (fun _ _ _ h => h) (Or.inl ⟨by kernel_rfl, fun w0 _ => by kernel_rfl⟩) hS0 ?_
    refine wpAnyH_take (i := 1) (v := .pointer (some ⟨Q, 0, none⟩)) rfl (by kernel_rfl) (by kernel_rfl) (by kernel_rfl) (fun _ _ _ h => h) (Or.inl ⟨by kernel_rfl, fun w0 _ => by kernel_rfl⟩) hS0 ?_
    refine wpAnyH_take (i := 2) (v := .int .i64 c) rfl (by kernel_rfl) (by kernel_rfl) (by kernel_rfl) (fun _ _ _ h => h) (Or.inl ⟨by kernel_rfl, fun w0 hw0 => xload 3 (.tmp 30) rfl Q 0 (by kernel_rfl) _ _ Tryz.underlying3 rfl (hw0.1 0 _ rfl)⟩) hS0 ?_
    refine wpAnyH_take (i := 3) (v := .pointer (some ⟨Q, 1, none⟩)) rfl (by kernel_rfl) (by kernel_rfl) (by kernel_rfl) (fun _ _ _ h => h) (Or.inl ⟨by kernel_rfl, fun w0 _ => by kernel_rfl⟩) hS0 ?_
    refine wpAnyH_take (i := 4) (v := .bool gg) rfl (by kernel_rfl) (by kernel_rfl) (by kernel_rfl) (fun _ _ _ h => h) (Or.inl ⟨by kernel_rfl, fun w0 hw0 => xload 4 (.tmp 32) rfl Q 1 (by kernel_rfl) _ _ Tryz.underlying4 rfl (hw0.1 1 _ rfl)⟩) hS0 ?_
    refine wpAnyH_take (i := 5) (v := .agg #[.bool t.s, .slice xo (Dg.dg 4294967296 t.n).length xc, .int .i64 t.e]) rfl (by kernel_rfl) (by kernel_rfl) (by kernel_rfl) (fun _ _ _ h => h) (Or.inl ⟨by kernel_rfl, fun w0 hw0 => xrow 87 (.tmp 10) rfl (Q + 1) 0 (by kernel_rfl) _ _ hw0.2 Tryz.underlying87 rfl (by kernel_rfl)⟩) hS0 ?_
    refine wpAnyH_ready (rs := [6]) (by kernel_rfl) (by simp) ?_
    refine AllReadyH.cons rfl (fun K hK => ?_) AllReadyH.nil
    go_simp
    refine (of_dy _ _ _ _ _ _).mono ?_
    rintro z w2 ⟨rfl, b2⟩
    have bW : Below W.heap.size W w2 := below_trans ((Below.refl _ _).drew) b2
    have q92 := q9.later bW
    have q102 := q10.later bW
    have rx2 := rx1.later bW
    have hO2 := hO1.later bW
    have dl2 := dl1.later bW
    have sl2 := sl1.later bW
    have bel2 := below_trans bel1 bW
    have hszW := bW.size
    refine hK.out _ _ ⟨q92.range, q102.range⟩ (fun hS6 => ?_)
    clear hK K qd xd b2 bW q9 q10 rx1 hO1 dl1 sl1 bel1
    refine wpAnyH_take (i := 7) (v := .agg #[.int .i64 c, .bool gg, .bool t.s, .slice xo (Dg.dg 4294967296 t.n).length xc, .int .i64 t.e]) rfl (by kernel_rfl) (by kernel_rfl) (by kernel_rfl) (fun _ _ _ h => h) (Or.inl ⟨by kernel_rfl, fun w0 _ => by kernel_rfl⟩) hS6 ?_
    refine wpAnyH_ready (rs := [8]) (by kernel_rfl) (by simp) ?_
    refine AllReadyH.cons rfl (fun K hK => ?_) AllReadyH.nil
    go_simp
    have al := below_alloc w2 (.cells #[.int .i64 c, .bool gg, .bool t.s, .slice xo (Dg.dg 4294967296 t.n).length xc, .int .i64 t.e] 110)
    have nl := locE_new w2 [.int .i64 c, .bool gg, .bool t.s, .slice xo (Dg.dg 4294967296 t.n).length xc, .int .i64 t.e] 110
    have q93 := q92.later al
    have q103 := q102.later al
    have rx3 := rx2.later al
    have hO3 := hO2.later al
    have dl3 := dl2.later al
    have sl3 := sl2.later al
    have bel3 := below_trans bel2 al
    refine hK.out _ _ ⟨q93.range, q103.range⟩ (fun hS8 => ?_)
    clear hK K al q92 q102 rx2 hO2 dl2 sl2 bel2
    generalize w2.alloc (.cells #[.int .i64 c, .bool gg, .bool t.s, .slice xo (Dg.dg 4294967296 t.n).length xc, .int .i64 t.e] 110) = W3 at nl q93 q103 rx3 hO3 dl3 sl3 bel3 hS8 ⊢
    obtain ⟨cs, k1, k2, k3⟩ := hO3
    obtain ⟨hi, hz0, hz1, hz2⟩ := HI.out
    have hw3 : w.heap.size + 1 ≤ W3.heap.size := dl3.lt
    obtain ⟨v', w4, hrun, hown', hgrow, -, hat⟩ := run_append_own_at (P := Tryz.prog) W3 (w.heap.size + 1) 103 103 110 i0 _ 5 56 Tryz.underlying103 hi hz0 hz1 hz2 rfl (by omega) u6 i cs k1 ⟨w2.heap.size, 0, none⟩ 1 1 [.int .i64 c, .bool gg, .bool t.s, .slice xo (Dg.dg 4294967296 t.n).length xc, .int .i64 t.e] rfl (fun j u hj => by have := nl.cell j hj; rw [Addr.add_mid, Nat.zero_add]; exact this) (fun u hu => by simp at hu; rcases hu with rfl | rfl | rfl | rfl | rfl <;> rfl) (by unfold maxLen; omega) (by omega) hw3
    refine wpAnyH_ready (rs := [9]) (by kernel_rfl) (by simp) ?_
    refine AllReadyH.cons rfl (fun K hK => ?_) AllReadyH.nil
    refine step_run_append rfl (.tmp 29) (.tmp 37) 103 rfl _ _ v' w4 rfl rfl hrun ?_
    have hlp : pb < w.heap.size := hpb
    have hgb : ∀ g, u6.ownBlock = some g → w.heap.size < g ∧ g < wr.heap.size := fun g hg => ⟨(World.ownsRow.lt k1 g hg).1, hbl g hg⟩
    have q94 := q93.grownO hgrow (fun g hg => by have := hgb g hg; omega)
    have q104 := q103.grownO hgrow (fun g hg => by have := hgb g hg; omega)
    have dl4 := dl3.grownO hgrow (fun g hg => by have := hgb g hg; omega)
    have sl4 := sl3.grownO hgrow (fun g hg => by have := hgb g hg; omega)
    have bel4 := bel3.grown hgrow (by omega) (fun g hg => by have := hgb g hg; omega)
    have hOps : OpsI w n ps (i + 1) v' w4 := by
     obtain ⟨h1, h2, h3, h4, h5⟩ := HP.out
     refine ops_more (x := .slice xo (Dg.dg 4294967296 t.n).length xc) h1 h5 k2 k3 ⟨⟨xo, xc, by rw [h4]⟩, by rw [h4]; exact rx3, fun b hb => ?_⟩ ?_ hgrow hat
     ·intro _ a u v hv
      have := fx a u v hv
      have := hgb b hb
      omega
     ·unfold opC
      rw [h2, h3, h4]
      exact hown'
    refine hK.out _ _ ⟨q94.range, q104.range⟩ (fun hS9 => ?_)
    clear hK K q94 q104 q93 q103 dl3 sl3 bel3 hgrow hown' hat hrun rx3 nl fx k1 k2 k3 HP HRp HI
    refine wpAnyH_take (i := 10) (v := v') rfl (by kernel_rfl) (by kernel_rfl) (by kernel_rfl) (fun _ _ _ h => h) (Or.inl ⟨by kernel_rfl, fun w0 _ => by go_simp⟩) hS9 ?_
    simp only [Act.put, List.getElem_toArray, List.getElem_cons_succ, List.getElem_cons_zero, List.setIfInBounds_toArray, List.set_cons_zero, List.set_cons_succ]
    refine wpAnyH_done (by kernel_rfl) ?_ _
    go_wp2
    go_roundw
    case rel => exact ⟨i + 1, by go_num, by omega, hOps, bel4, dl4, sl4⟩
    case measure => simp [intOf]; omega
   ·have hef : (er == 0) = false := by simpa using he
    go_wp2
    go_ret2
    obtain ⟨h1, -, -, -, h5⟩ := HP.out
    obtain ⟨cs, -, -, k3⟩ := hO1
    have hil : i < ps.length := by have := HM.out; omega
    have hd : ps.drop i = p :: ps.drop (i + 1) := by
     rw [List.drop_eq_getElem_cons hil]
     congr 1
     rw [List.getElem?_eq_getElem hil] at h1
     exact Option.some.inj h1
    have hE : errL n ps = er := by
     rw [k3, hd, ← h5]
     exact if_neg (by rw [h5]; exact he)
    refine .inr ⟨by rw [hE]; exact he, ?_, bel1⟩
    rw [hE]
    rfl
  ·have HE : Hid (i = m) := (by omega : i = m)
   go_wp2
   go_ret2
   obtain ⟨cs, k1, k2, k3⟩ := hO
   have h1 := HE.out
   have h2 := HM.out
   subst h1
   rw [List.take_of_length_le (by omega)] at k2
   rw [List.drop_of_length_le (by omega)] at k3
   refine .inl ⟨k3, u6, cs, rfl, ?_, k2, bel⟩
   rw [h2]
   exact own_row_wider k1 (by omega)
end Go.Proofs.YtiiphandhpilgaaGreatDoor
namespace Go.Proofs.YtiiphandhpilgaaGreatDoor
open Go.RowKit
theorem ops_get {w : World} {n : Int} {g : Option Nat} : ∀ {ps : List ByteArray} {cs : List Value} {i : Nat} {p : ByteArray}, OpsAt w n g ps cs → ps[i]? = some p → ∃ v, OpAt w n g p v ∧ ∀ j u, (opC n p v)[j]? = some u → cs[5 * i + j]? = some u
 | [], _, _, _, _, hp => by simp at hp
 | q :: ps, cs, 0, p, hc, hp => by
  obtain ⟨v, rest, h1, h2, h3⟩ := hc
  have : q = p := by simpa using hp
  subst this
  refine ⟨v, h2, fun j u hj => ?_⟩
  subst h1
  rw [List.getElem?_append_left]
  ·simpa using hj
  ·have := (List.getElem?_eq_some_iff.1 hj).1
   omega
 | q :: ps, cs, i + 1, p, hc, hp => by
  obtain ⟨v, rest, h1, h2, h3⟩ := hc
  obtain ⟨u, h4, h5⟩ := ops_get h3 (by simpa using hp)
  refine ⟨u, h4, fun j x hj => ?_⟩
  subst h1
  rw [List.getElem?_append_right (by simp [opC]; omega)]
  have := h5 j x hj
  rw [show 5 * (i + 1) + j - (opC n q v).length = 5 * i + j from by simp [opC]; omega]
  exact this
structure OpsV (w : World) (n : Int) (ps : List ByteArray) (g cap : Nat) : Prop where
 fit : ps.length ≤ cap
 most : cap ≤ maxLen
 each : ∀ (i : Nat) p, ps[i]? = some p → ∃ so sc, w.rangeAt g (i * 5) (opC n p (.slice so (Dg.dg 4294967296 (opT n p).n).length sc)) ∧ Rd w .u32 (.slice so (Dg.dg 4294967296 (opT n p).n).length sc) (Dg.dg 4294967296 (opT n p).n)
theorem range_later {w w' : World} {g o : Nat} {cs : List Value} (h : w.rangeAt g o cs) (hb : Below w.heap.size w w') : w'.rangeAt g o cs := fun j v hv => by
 have := h j v hv
 rw [← this]
 exact World.cell?_of_block (hb.block g (World.block_lt_of_cell? w _ this))
theorem OpsV.later {w w' : World} {n : Int} {ps : List ByteArray} {g cap : Nat} (h : OpsV w n ps g cap) (hb : Below w.heap.size w w') : OpsV w' n ps g cap :=
 ⟨h.fit, h.most, fun i p hp => by
  obtain ⟨so, sc, h1, h2⟩ := h.each i p hp
  exact ⟨so, sc, range_later h1 hb, h2.later hb⟩⟩
theorem opsV_of {w : World} {n : Int} {ps : List ByteArray} {base : Nat} {v : Value} {cs : List Value} (h0 : ps ≠ []) (ho : w.ownsRow base 110 5 v ps.length cs) (hat : OpsAt w n v.ownBlock ps cs) :
  ∃ g cap, v = .slice (some ⟨g, 0, none⟩) ps.length cap ∧ OpsV w n ps g cap := by
 rcases ho.2 with ⟨-, h⟩ | ⟨g, cap, cur, hv, -, -, h1, h2, -, -⟩
 ·exact absurd (List.eq_nil_of_length_eq_zero h) h0
 ·refine ⟨g, cap, hv, h1, h2, fun i p hp => ?_⟩
  obtain ⟨u, ⟨⟨so, sc, rfl⟩, k2, k3⟩, k4⟩ := ops_get hat hp
  refine ⟨so, sc, fun j x hj => ?_, k2⟩
  have := ho.cells (g := g) (by rw [hv]; rfl) (5 * i + j) x (k4 j x hj)
  rw [Addr.add_mid, Nat.zero_add] at this
  rw [Nat.mul_comm i 5]
  exact this
end Go.Proofs.YtiiphandhpilgaaGreatDoor
namespace Go.Proofs.YtiiphandhpilgaaGreatDoor
open Go.RowKit
def noNum (n : Int) (p : ByteArray) : Bool := decide (decC n p = 4 ∨ decC n p = 5)
set_option maxHeartbeats 6400000 in
theorem noNumbers_W (n : Int) (ps : List ByteArray) (g cap : Nat) (w : World) (h : OpsV w n ps g cap) (hm : ps.length ≤ 3) :
  Calls Tryz.prog 51 #[.slice (some ⟨g, 0, none⟩) ps.length cap] w fun z w' => z = .returned (.bool (ps.any (noNum n))) ∧ Below w.heap.size w w' := by
 obtain ⟨m, hmE⟩ : ∃ m, ps.length = m := ⟨_, rfl⟩
 have hfit := h.fit
 have hmost := h.most
 rw [hmE] at hm hfit ⊢
 have HM : Hid (ps.length = m) := hmE
 have HF : Hid (m ≤ cap ∧ cap ≤ maxLen) := ⟨hfit, hmost⟩
 clear hmE hfit hmost
 go_enter Tryz.func51, Tryz.ntmps51
 go_wp2
 go_loopw [7] (fun iv wr => ∃ i : Nat, iv = .int .i64 (i : Int) ∧ i ≤ m ∧ Hid (ps.any (noNum n) = (ps.drop i).any (noNum n)) ∧ OpsV wr n ps g cap ∧ Below w.heap.size w wr) (fun iv _ => m - (intOf iv).toNat)
 case atStart => exact ⟨0, rfl, by omega, rfl, h, Below.refl _ _⟩
 case round =>
  obtain ⟨i, rfl, him, HN, hO, bel⟩ := hrel
  by_cases hlt : i < m
  ·have hil : i < ps.length := by have := HM.out; omega
   obtain ⟨p, hp⟩ : ∃ p, ps[i]? = some p := ⟨_, List.getElem?_eq_getElem hil⟩
   have hd : ps.drop i = p :: ps.drop (i + 1) := by
    rw [List.drop_eq_getElem_cons hil]
    congr 1
    rw [List.getElem?_eq_getElem hil] at hp
    exact Option.some.inj hp
   have HN2 : Hid (ps.any (noNum n) = (noNum n p || (ps.drop (i + 1)).any (noNum n))) := by
    have := HN.out
    rw [hd, List.any_cons] at this
    exact this
   obtain ⟨so, sc, hr, -⟩ := hO.each i p hp
   unfold opC at hr
   obtain ⟨c, ec⟩ : ∃ c : Nat, decC n p = c := ⟨_, rfl⟩
   obtain ⟨b1, e1⟩ : ∃ c, decG n p = c := ⟨_, rfl⟩
   obtain ⟨t, et⟩ : ∃ c, opT n p = c := ⟨_, rfl⟩
   have HC : Hid (noNum n p = decide (c = 4 ∨ c = 5)) := by unfold noNum; rw [ec]; rfl
   rw [ec, e1, et] at hr
   have y0 : wr.cell? ⟨g, i * 5, none⟩ = some (.int .i64 (c : Int)) := hr 0 _ rfl
   have y1 : wr.cell? ⟨g, i * 5 + 1, none⟩ = some (.bool b1) := hr 1 _ rfl
   have y2 : wr.cell? ⟨g, i * 5 + 2, none⟩ = some (.bool t.s) := hr 2 _ rfl
   have y3 : wr.cell? ⟨g, i * 5 + 3, none⟩ = some (.slice so (Dg.dg 4294967296 t.n).length sc) := hr 3 _ rfl
   have y4 : wr.cell? ⟨g, i * 5 + 4, none⟩ = some (.int .i64 t.e) := hr 4 _ rfl
   have al := below_alloc wr (.cells #[.int .i64 (c : Int), .bool b1, .bool t.s, .slice so (Dg.dg 4294967296 t.n).length sc, .int .i64 t.e] 110)
   have ln := locE_new wr [.int .i64 (c : Int), .bool b1, .bool t.s, .slice so (Dg.dg 4294967296 t.n).length sc, .int .i64 t.e] 110
   have hO1 := hO.later al
   have bel1 := below_trans bel al
   clear hp hil hd HN hr ec e1 et hO bel al
   go_upto_region 4 with fail
   generalize wr.alloc (.cells #[.int .i64 (c : Int), .bool b1, .bool t.s, .slice so (Dg.dg 4294967296 t.n).length sc, .int .i64 t.e] 110) = W at ln hO1 bel1 ⊢
   obtain ⟨z0, z1, z2, z3, z4⟩ := ln.cs5
   clear ln y0 y1 y2 y3 y4
   by_cases h4 : c = 4
   ·subst h4
    go_wp2
    go_ret
    refine ⟨?_, bel1⟩
    rw [HN2.out, HC.out]
    rfl
   ·by_cases h5 : c = 5
    ·subst h5
     go_wp2
     go_ret
     refine ⟨?_, bel1⟩
     rw [HN2.out, HC.out]
     rfl
    ·have c4 : ((c : Int) == 4) = false := beq_eq_false_iff_ne.2 (by omega)
     have c5 : ((c : Int) == 5) = false := beq_eq_false_iff_ne.2 (by omega)
     have HN3 : Hid (ps.any (noNum n) = (ps.drop (i + 1)).any (noNum n)) := by
      have h1 := HN2.out
      rw [HC.out, decide_eq_false (by omega), Bool.false_or] at h1
      exact h1
     clear h4 h5 HN2 HC
     go_wp2
     go_roundw
     case rel => exact ⟨i + 1, by go_num, by omega, HN3, hO1, bel1⟩
     case measure => simp [intOf]; omega
  ·have HE : Hid (i = m) := (by omega : i = m)
   go_wp2
   go_ret
   refine ⟨?_, bel⟩
   rw [HN.out, List.drop_of_length_le (by have h1 := HE.out; have h2 := HM.out; omega)]
   rfl
end Go.Proofs.YtiiphandhpilgaaGreatDoor
namespace Go.Proofs.YtiiphandhpilgaaGreatDoor
open Go.RowKit
set_option maxHeartbeats 1600000 in
theorem oinfinite_any (c : Int) (g s : Bool) (ao : Option Addr) (la ca : Nat) (e : Int) (w : World) : Calls Tryz.prog 80 #[.agg #[.int .i64 c, .bool g, .bool s, .slice ao la ca, .int .i64 e]] w fun z w' => z = .returned (.bool (c == 3)) ∧ Below w.heap.size w w' := by
 have b0 := below_alloc w (.cells #[.int .i64 c, .bool g, .bool s, .slice ao la ca, .int .i64 e] 110)
 go_enter Tryz.func80, Tryz.ntmps80
 go_wp2
 go_ret
 exact ⟨rfl, b0⟩
set_option maxHeartbeats 3200000 in
theorem compareN_W (cx cy r : Int) (gx sx gy sy : Bool) (xo yo : Option Addr) (lx kx ly ky : Nat) (ex ey : Int) (w : World) (hx : (cx == 3) = false) (hy : (cy == 3) = false)
  (HC : ∀ w1, Below w.heap.size w w1 → Calls Tryz.prog 83 #[.agg #[.bool sx, .slice xo lx kx, .int .i64 ex], .agg #[.bool sy, .slice yo ly ky, .int .i64 ey]] w1 fun z w' => z = .returned (.int .i64 r) ∧ Below w1.heap.size w1 w') :
  Calls Tryz.prog 52 #[.agg #[.int .i64 cx, .bool gx, .bool sx, .slice xo lx kx, .int .i64 ex], .agg #[.int .i64 cy, .bool gy, .bool sy, .slice yo ly ky, .int .i64 ey]] w fun z w' => z = .returned (.int .i64 r) ∧ Below w.heap.size w w' := by
 replace HC : Hid _ := HC
 have HX : Hid (∀ w1, Calls Tryz.prog 80 #[.agg #[.int .i64 cx, .bool gx, .bool sx, .slice xo lx kx, .int .i64 ex]] w1 fun z w' => z = .returned (.bool (cx == 3)) ∧ Below w1.heap.size w1 w') := fun w1 => oinfinite_any cx gx sx xo lx kx ex w1
 have HY : Hid (∀ w1, Calls Tryz.prog 80 #[.agg #[.int .i64 cy, .bool gy, .bool sy, .slice yo ly ky, .int .i64 ey]] w1 fun z w' => z = .returned (.bool (cy == 3)) ∧ Below w1.heap.size w1 w') := fun w1 => oinfinite_any cy gy sy yo ly ky ey w1
 rw [hx] at HX
 rw [hy] at HY
 have bx := below_alloc w (.cells #[.int .i64 cx, .bool gx, .bool sx, .slice xo lx kx, .int .i64 ex] 110)
 have by0 := below_alloc (w.alloc (.cells #[.int .i64 cx, .bool gx, .bool sx, .slice xo lx kx, .int .i64 ex] 110)) (.cells #[.int .i64 cy, .bool gy, .bool sy, .slice yo ly ky, .int .i64 ey] 110)
 have l0 := (locE_new w [.int .i64 cx, .bool gx, .bool sx, .slice xo lx kx, .int .i64 ex] 110).later by0
 have m0 := locE_new (w.alloc (.cells #[.int .i64 cx, .bool gx, .bool sx, .slice xo lx kx, .int .i64 ex] 110)) [.int .i64 cy, .bool gy, .bool sy, .slice yo ly ky, .int .i64 ey] 110
 rw [World.size_alloc] at m0
 have b0 := below_trans bx by0
 clear bx by0 hx hy
 go_enter Tryz.func52, Tryz.ntmps52
 go_upto_region 1 with fail
 generalize (w.alloc (.cells #[.int .i64 cx, .bool gx, .bool sx, .slice xo lx kx, .int .i64 ex] 110)).alloc (.cells #[.int .i64 cy, .bool gy, .bool sy, .slice yo ly ky, .int .i64 ey] 110) = W0 at l0 m0 b0 ⊢
 obtain ⟨x0, x1, x2, x3, x4⟩ := l0.cs5
 obtain ⟨y0, y1, y2, y3, y4⟩ := m0.cs5
 go_wp2_with fail
 refine (HX.out _).mono ?_
 rintro z w1 ⟨rfl, b1⟩
 have l1 := l0.later b1
 have m1 := m0.later b1
 have b01 := below_trans b0 b1
 clear x0 x1 x2 x3 x4 y0 y1 y2 y3 y4 l0 m0 b0 b1 HX
 obtain ⟨x0, x1, x2, x3, x4⟩ := l1.cs5
 obtain ⟨y0, y1, y2, y3, y4⟩ := m1.cs5
 go_wp2_with fail
 refine (HY.out _).mono ?_
 rintro z w2 ⟨rfl, b2⟩
 have l2 := l1.later b2
 have m2 := m1.later b2
 have b02 := below_trans b01 b2
 clear x0 x1 x2 x3 x4 y0 y1 y2 y3 y4 l1 m1 b01 b2 HY
 obtain ⟨x0, x1, x2, x3, x4⟩ := l2.cs5
 obtain ⟨y0, y1, y2, y3, y4⟩ := m2.cs5
 go_wp2_with fail
 refine (HC.out _ b02).mono ?_
 rintro z w3 ⟨rfl, b3⟩
 have b03 := below_trans b02 b3
 go_wp2
 go_ret
 exact ⟨rfl, b03⟩
end Go.Proofs.YtiiphandhpilgaaGreatDoor

/-
  Texts laid together: Oq1, Oq2, Oq4, As1.
-/
import Derived.Test.YtnhackdjplppjaaGreatDoorAc39
set_option maxRecDepth 100000
namespace Go.Proofs.YtnhackdjplppjaaGreatDoor
open Go.RowKit
def rfG (n : Int) (p : ByteArray) : Bool := refG n.toNat (fldN n.toNat p) (fldE n.toNat p) (fldF n.toNat p)
def rfT (n : Int) (p : ByteArray) : Trip := refT n.toNat (fldN n.toNat p) (fldE n.toNat p) (fldF n.toNat p)
def opnE (n way : Int) (ps : List ByteArray) : Int := if famC n = 0 then 6 else if errL n ps = 0 then (if isWay way then 0 else 6) else errL n ps
def rfC (n : Int) (p : ByteArray) (v : Value) : List Value := [.int .i64 ((decC n p : Nat) : Int), .bool (rfG n p), .bool (rfT n p).s, v, .int .i64 (rfT n p).e]
def RfAt (w : World) (n : Int) (g : Option Nat) (p : ByteArray) (v : Value) : Prop :=
 (∃ so sc, v = .slice so (Dg.dg 65536 (rfT n p).n).length sc) ∧ Rd w .i64 v (Dg.dg 65536 (rfT n p).n) ∧ ∀ b, g = some b → OffB b v (Dg.dg 65536 (rfT n p).n)
def RfsAt (w : World) (n : Int) (g : Option Nat) : List ByteArray → List Value → Prop
 | [], cs => cs = []
 | p :: ps, cs => ∃ v rest, cs = rfC n p v ++ rest ∧ RfAt w n g p v ∧ RfsAt w n g ps rest
theorem RfsAt.mono {w w' : World} {n : Int} {g g' : Option Nat} (h : ∀ p v, RfAt w n g p v → RfAt w' n g' p v) : ∀ {ps : List ByteArray} {cs : List Value}, RfsAt w n g ps cs → RfsAt w' n g' ps cs
 | [], _, hc => hc
 | p :: _, _, hc => by
  obtain ⟨v, rest, h1, h2, h3⟩ := hc
  exact ⟨v, rest, h1, h p v h2, RfsAt.mono h h3⟩
theorem RfsAt.snoc {w : World} {n : Int} {g : Option Nat} {p : ByteArray} {v : Value} (hv : RfAt w n g p v) : ∀ {ps : List ByteArray} {cs : List Value}, RfsAt w n g ps cs → RfsAt w n g (ps ++ [p]) (cs ++ rfC n p v)
 | [], cs, hc => by
  have : cs = [] := hc
  subst this
  exact ⟨v, [], by simp, hv, rfl⟩
 | q :: _, _, hc => by
  obtain ⟨u, rest, h1, h2, h3⟩ := hc
  subst h1
  exact ⟨u, rest ++ rfC n p v, by simp, h2, RfsAt.snoc hv h3⟩
def OpnRes (w : World) (n : Int) (ps : List ByteArray) (e : Int) (z : Ending) (w' : World) : Prop :=
 (e = 0 ∧ ∃ v cs, z = .returned (.tuple #[v, .int .i64 0]) ∧ w'.ownsRow w.heap.size 32 5 v ps.length cs ∧ RfsAt w' n v.ownBlock ps cs ∧ Below w.heap.size w w') ∨
 (e ≠ 0 ∧ z = .returned (.tuple #[.slice none 0 0, .int .i64 e]) ∧ Below w.heap.size w w')
def RfsI (w : World) (n : Int) (ps : List ByteArray) (i : Nat) (lv : Value) (wr : World) : Prop :=
 ∃ cs, wr.ownsRow w.heap.size 32 5 lv i cs ∧ RfsAt wr n lv.ownBlock (ps.take i) cs ∧ errL n ps = errL n (ps.drop i)
theorem RfAt.later {w w' : World} {n : Int} {g : Option Nat} {p : ByteArray} {v : Value} (h : RfAt w n g p v) (hb : Below w.heap.size w w') : RfAt w' n g p v := ⟨h.1, h.2.1.later hb, h.2.2⟩
theorem RfsI.later {w wr w' : World} {n : Int} {ps : List ByteArray} {i : Nat} {lv : Value} (h : RfsI w n ps i lv wr) (hb : Below wr.heap.size wr w') : RfsI w n ps i lv w' := by
 obtain ⟨cs, h1, h2, h3⟩ := h
 exact ⟨cs, own_row_later h1 hb, h2.mono (fun p v k => k.later hb), h3⟩
theorem rfs_more {w w1 w2 : World} {n : Int} {ps : List ByteArray} {i : Nat} {lv v' x : Value} {p : ByteArray} {cs : List Value} (hp : ps[i]? = some p) (he : patC n p = 0) (h2 : RfsAt w1 n lv.ownBlock (ps.take i) cs) (h3 : errL n ps = errL n (ps.drop i)) (hx : RfAt w1 n lv.ownBlock p x)
  (hown : w2.ownsRow w.heap.size 32 5 v' (i + 1) (cs ++ rfC n p x)) (hg : w1.grownBy w2 lv.ownBlock) (hat : v'.ownBlock = lv.ownBlock ∨ v'.ownBlock = some w1.heap.size) :
  RfsI w n ps (i + 1) v' w2 := by
 have hil : i < ps.length := by
  rw [List.getElem?_eq_some_iff] at hp
  exact hp.1
 have hm : ∀ q v, RfAt w1 n lv.ownBlock q v → RfAt w2 n v'.ownBlock q v := fun q v k => by
  obtain ⟨k1, k2, k3⟩ := k
  refine ⟨k1, ?_, ?_⟩
  ·obtain ⟨so, sc, rfl⟩ := k1
   cases hb : lv.ownBlock with
   | none => exact k2.later ⟨hg.os, hg.tape, hg.output, hg.size, fun j hj => hg.block j hj (by rw [hb]; exact fun e => nomatch e)⟩
   | some b => exact rd_grown k2 (hb ▸ hg) (k3 b hb)
  ·intro b hb
   rcases hat with e | e
   ·exact k3 b (by rw [← e]; exact hb)
   ·have hbw : b = w1.heap.size := by rw [e] at hb; exact (Option.some.inj hb).symm
    exact rd_offNew k2 (by omega)
 refine ⟨_, hown, ?_, ?_⟩
 ·rw [List.take_add_one, hp]
  exact (h2.mono hm).snoc (hm p x hx)
 ·rw [h3]
  have hd : ps.drop i = p :: ps.drop (i + 1) := by
   rw [List.drop_eq_getElem_cons hil]
   congr 1
   rw [List.getElem?_eq_getElem hil] at hp
   exact Option.some.inj hp
  rw [hd]
  exact if_pos he
theorem rfs_get {w : World} {n : Int} {g : Option Nat} : ∀ {ps : List ByteArray} {cs : List Value} {i : Nat} {p : ByteArray}, RfsAt w n g ps cs → ps[i]? = some p → ∃ v, RfAt w n g p v ∧ ∀ j u, (rfC n p v)[j]? = some u → cs[5 * i + j]? = some u
 | [], _, _, _, _, hp => by simp at hp
 | q :: ps, cs, 0, p, hc, hp => by
  obtain ⟨v, rest, h1, h2, h3⟩ := hc
  have : q = p := by simpa using hp
  subst this
  refine ⟨v, h2, fun j u hj => ?_⟩
  subst h1
  rw [List.getElem?_append_left]
  ·simpa using hj
  ·have := (List.getElem?_eq_some_iff.1 hj).1
   omega
 | q :: ps, cs, i + 1, p, hc, hp => by
  obtain ⟨v, rest, h1, h2, h3⟩ := hc
  obtain ⟨u, h4, h5⟩ := rfs_get h3 (by simpa using hp)
  refine ⟨u, h4, fun j x hj => ?_⟩
  subst h1
  rw [List.getElem?_append_right (by simp [rfC]; omega)]
  have := h5 j x hj
  rw [show 5 * (i + 1) + j - (rfC n q v).length = 5 * i + j from by simp [rfC]; omega]
  exact this
structure RfsV (w : World) (n : Int) (ps : List ByteArray) (g cap : Nat) : Prop where
 fit : ps.length ≤ cap
 most : cap ≤ maxLen
 each : ∀ (i : Nat) p, ps[i]? = some p → ∃ so sc, w.rangeAt g (i * 5) (rfC n p (.slice so (Dg.dg 65536 (rfT n p).n).length sc)) ∧ Rd w .i64 (.slice so (Dg.dg 65536 (rfT n p).n).length sc) (Dg.dg 65536 (rfT n p).n)
theorem RfsV.later {w w' : World} {n : Int} {ps : List ByteArray} {g cap : Nat} (h : RfsV w n ps g cap) (hb : Below w.heap.size w w') : RfsV w' n ps g cap :=
 ⟨h.fit, h.most, fun i p hp => by
  obtain ⟨so, sc, h1, h2⟩ := h.each i p hp
  exact ⟨so, sc, range_later h1 hb, h2.later hb⟩⟩
theorem rfsV_of {w : World} {n : Int} {ps : List ByteArray} {base : Nat} {v : Value} {cs : List Value} (h0 : ps ≠ []) (ho : w.ownsRow base 32 5 v ps.length cs) (hat : RfsAt w n v.ownBlock ps cs) :
  ∃ g cap, v = .slice (some ⟨g, 0, none⟩) ps.length cap ∧ RfsV w n ps g cap := by
 rcases ho.2 with ⟨-, h⟩ | ⟨g, cap, cur, hv, -, -, h1, h2, -, -⟩
 ·exact absurd (List.eq_nil_of_length_eq_zero h) h0
 ·refine ⟨g, cap, hv, h1, h2, fun i p hp => ?_⟩
  obtain ⟨u, ⟨⟨so, sc, rfl⟩, k2, k3⟩, k4⟩ := rfs_get hat hp
  refine ⟨so, sc, fun j x hj => ?_, k2⟩
  have := ho.cells (g := g) (by rw [hv]; rfl) (5 * i + j) x (k4 j x hj)
  rw [Addr.add_mid, Nat.zero_add] at this
  rw [Nat.mul_comm i 5]
  exact this
end Go.Proofs.YtnhackdjplppjaaGreatDoor
namespace Go.Proofs.YtnhackdjplppjaaGreatDoor
open Go.RowKit
theorem wpList_run_append {P : Program} {ops : Array Oper} {rest : List Oper} {o : Oper} {a : Act} {w : World} {Q : Exit → Act → World → Prop} (hg : o.guard = none) (s x : Operand) (t : TypeId) (hop : o.op = Op.call { callee := Callee.builtin Builtin.append, args := #[s, x], argTypes := #[t, t] })
  (v u v' : Value) (w' : World) (hs : a.eval s = v) (hx : a.eval x = u) (hr : (Builtin.append_ #[t, t] o.type #[v, u]).run P w = .ok v' w') (h : wpList P ops Q rest (a.put o.dst v') w') : wpList P ops Q (o :: rest) a w :=
 wpList_plain hg fun K hK => by
  unfold Oper.wp
  simp [execOp, hop, resolve, invoke, builtin, hs, hx, hr, Result.andThen]
  exact hK _ _ h
set_option maxHeartbeats 12800000 in
theorem opened_W (n way f0 f1 f2 f3 f4 f5 f6 f8 : Int) (f7 ok iw : Bool) (ps : List ByteArray) (pb : Nat) (w : World) (hps : LocE w pb 9 (ps.map Value.string)) (hm : ps.length ≤ 3) (hok : ok = decide (famC n ≠ 0)) (hiw : iw = isWay way)
  (HF : ∀ w1, Calls Tryz.prog 35 #[.int .i64 n] w1 fun z w' => z = .returned (.tuple #[.agg #[.int .i64 f0, .int .i64 f1, .int .i64 f2, .int .i64 f3, .int .i64 f4, .int .i64 f5, .int .i64 f6, .bool f7, .int .i64 f8], .bool ok]) ∧ Below w1.heap.size w1 w')
  (HO : ∀ p w1, Calls Tryz.prog 56 #[.int .i64 n, .string p] w1 fun z w' => z = .returned (.int .i64 (patC n p)) ∧ Below w1.heap.size w1 w')
  (HD : ∀ p w1, patC n p = 0 → Calls Tryz.prog 57 #[.int .i64 n, .string p] w1 (RDec w1 ((decC n p : Nat) : Int) (rfG n p) (rfT n p) (clsG n p)))
  (HY : ∀ w1, Calls Tryz.prog 37 #[.int .i64 way] w1 fun z w' => z = .returned (.bool iw) ∧ w' = w1) :
  Calls Tryz.prog 18 #[.int .i64 n, .int .i64 way, .slice (some ⟨pb, 0, none⟩) ps.length ps.length] w (OpnRes w n ps (opnE n way ps)) := by
 replace HF : Hid _ := HF
 replace HO : Hid _ := HO
 replace HD : Hid _ := HD
 replace HY : Hid _ := HY
 obtain ⟨i0, hi, hz0, hz1, hz2⟩ := info_parts (show (Tryz.prog.info? 32).map (fun i => (i.zero, i.size, i.bytes)) = some (some (.agg #[.int .i64 0, .bool false, .bool false, .slice none 0 0, .int .i64 0]), 5, 56) by kernel_rfl)
 have HI : Hid (_ ∧ _ ∧ _ ∧ _) := ⟨hi, hz0, hz1, hz2⟩
 have hpb := hps.lt
 obtain ⟨m, hmE⟩ : ∃ m, ps.length = m := ⟨_, rfl⟩
 rw [hmE] at hm ⊢
 have HM : Hid (ps.length = m) := hmE
 have HOK : Hid (ok = decide (famC n ≠ 0) ∧ iw = isWay way) := ⟨hok, hiw⟩
 clear hmE hi hz0 hz1 hz2 hok hiw
 go_enter Tryz.func18, Tryz.ntmps18
 go_wp2_with fail
 refine (HF.out _).mono ?_
 rintro z w1 ⟨rfl, b1⟩
 have bA := below_alloc w1 (.cells #[.int .i64 f0, .int .i64 f1, .int .i64 f2, .int .i64 f3, .int .i64 f4, .int .i64 f5, .int .i64 f6, .bool f7, .int .i64 f8] 58)
 have b0 := below_trans b1 bA
 have s0 := hps.later b0
 clear b1 bA hps
 cases ok
 ·go_wp2
  go_ret2
  have hf : famC n = 0 := by
   have := HOK.out.1
   simpa using this.symm
  refine .inr ⟨?_, ?_, b0⟩
  ·unfold opnE
   rw [if_pos hf]
   decide
  ·unfold opnE
   rw [if_pos hf]
   rfl
 go_wp2
 generalize w1.alloc (.cells #[.int .i64 f0, .int .i64 f1, .int .i64 f2, .int .i64 f3, .int .i64 f4, .int .i64 f5, .int .i64 f6, .bool f7, .int .i64 f8] 58) = W0 at b0 s0 ⊢
 go_loopw [8, 11] (fun lv iv wr => ∃ i : Nat, iv = .int .i64 (i : Int) ∧ i ≤ m ∧ RfsI w n ps i lv wr ∧ Below w.heap.size w wr ∧ LocE wr pb 9 (ps.map Value.string)) (fun _ iv _ => m - (intOf iv).toNat)
 case atStart => exact ⟨0, rfl, by omega, ⟨[], World.ownsRow_nil _ _ _ 5, rfl, rfl⟩, b0, s0⟩
 case round =>
  obtain ⟨i, rfl, him, hO, bel, sl⟩ := hrel
  by_cases hlt : i < m
  ·have hil : i < ps.length := by have := HM.out; omega
   obtain ⟨p, hp⟩ : ∃ p, ps[i]? = some p := ⟨_, List.getElem?_eq_getElem hil⟩
   have y := sl.cell i (v := .string p) (by rw [List.getElem?_map, hp]; rfl)
   have HOp := HO.out p
   have HDp := fun w1 h => HD.out p w1 h
   obtain ⟨c, ec⟩ : ∃ c : Int, ((decC n p : Nat) : Int) = c := ⟨_, rfl⟩
   obtain ⟨gg, eg⟩ : ∃ c, rfG n p = c := ⟨_, rfl⟩
   obtain ⟨t, et⟩ : ∃ c, rfT n p = c := ⟨_, rfl⟩
   obtain ⟨cg, ecg⟩ : ∃ c, clsG n p = c := ⟨_, rfl⟩
   obtain ⟨er, ee⟩ : ∃ c, patC n p = c := ⟨_, rfl⟩
   rw [ee] at HOp
   rw [ec, eg, et, ecg, ee] at HDp
   have HP : Hid (ps[i]? = some p ∧ ((decC n p : Nat) : Int) = c ∧ rfG n p = gg ∧ rfT n p = t ∧ patC n p = er) := ⟨hp, ec, eg, et, ee⟩
   replace HOp : Hid _ := HOp
   replace HDp : Hid _ := HDp
   clear hp hil ec eg et ee ecg
   go_wp2_with fail
   refine (HOp.out _).mono ?_
   rintro z w2 ⟨rfl, b2⟩
   have y2 := cell_later b2 y
   have hO2 := hO.later b2
   have sl2 := sl.later b2
   have bel2 := below_trans bel b2
   have hbl : ∀ b, u8.ownBlock = some b → b < wr.heap.size := fun b hb => by
    obtain ⟨cs, h1, -⟩ := hO
    exact (World.ownsRow.lt h1 b hb).2
   have hsz : wr.heap.size ≤ w2.heap.size := b2.size
   have hws : w.heap.size ≤ wr.heap.size := bel.size
   clear b2 y hO sl bel
   by_cases he : er = 0
   ·replace HDp : Hid _ := fun w1 => HDp.out w1 he
    subst he
    go_wp2_with fail
    refine (HDp.out _).mono ?_
    rintro z w3 ⟨x, rfl, rx, b3, fx⟩
    obtain ⟨xo, xc, hx⟩ := rx.shape
    subst hx
    have a3 := below_alloc w3 (.cells #[.int .i64 c, .bool gg, .bool t.s, .slice xo (Dg.dg 65536 t.n).length xc, .int .i64 t.e] 32)
    have q3 := locE_new w3 [.int .i64 c, .bool gg, .bool t.s, .slice xo (Dg.dg 65536 t.n).length xc, .int .i64 t.e] 32
    have bb := below_trans b3 a3
    have rx3 := rx.later a3
    have hO3 := hO2.later bb
    have sl3 := sl2.later bb
    have bel3 := below_trans bel2 bb
    have hsz3 : w2.heap.size ≤ w3.heap.size := b3.size
    clear b3 a3 bb rx hO2 sl2 bel2 y2
    go_upto_region 12 with fail
    generalize w3.alloc (.cells #[.int .i64 c, .bool gg, .bool t.s, .slice xo (Dg.dg 65536 t.n).length xc, .int .i64 t.e] 32) = W at q3 rx3 hO3 sl3 bel3 ⊢
    generalize w3.heap.size = Q at q3 hsz3 ⊢
    have al := below_alloc W (.cells #[.int .i64 c, .bool gg, .bool t.s, .slice xo (Dg.dg 65536 t.n).length xc, .int .i64 t.e] 32)
    have nl := locE_new W [.int .i64 c, .bool gg, .bool t.s, .slice xo (Dg.dg 65536 t.n).length xc, .int .i64 t.e] 32
    have rx4 := rx3.later al
    have sl4 := sl3.later al
    have bel4 := below_trans bel3 al
    obtain ⟨cs, k1, k2, k3⟩ := hO3.later al
    obtain ⟨hi, hz0, hz1, hz2⟩ := HI.out
    have hw3 : w.heap.size ≤ (W.alloc (.cells #[.int .i64 c, .bool gg, .bool t.s, .slice xo (Dg.dg 65536 t.n).length xc, .int .i64 t.e] 32)).heap.size := bel4.size
    obtain ⟨v', w4, hrun, hown', hgrow, -, hat⟩ := run_append_own_at (P := Tryz.prog) (W.alloc (.cells #[.int .i64 c, .bool gg, .bool t.s, .slice xo (Dg.dg 65536 t.n).length xc, .int .i64 t.e] 32)) w.heap.size 25 25 32 i0 _ 5 56 Tryz.underlying25 hi hz0 hz1 hz2 rfl (by omega) u8 i cs k1 ⟨W.heap.size, 0, none⟩ 1 1 [.int .i64 c, .bool gg, .bool t.s, .slice xo (Dg.dg 65536 t.n).length xc, .int .i64 t.e] rfl (fun j u hj => by have := nl.cell j hj; rw [Addr.add_mid, Nat.zero_add]; exact this) (fun u hu => by simp at hu; rcases hu with rfl | rfl | rfl | rfl | rfl <;> rfl) (by unfold maxLen; omega) (by omega) hw3
    have hgb : ∀ g, u8.ownBlock = some g → w.heap.size ≤ g ∧ g < wr.heap.size := fun g hg => ⟨(World.ownsRow.lt k1 g hg).1, hbl g hg⟩
    have sl5 := sl4.grownO hgrow (fun g hg => by have := hgb g hg; omega)
    have bel5 := bel4.grown hgrow (by omega) (fun g hg => by have := hgb g hg; omega)
    have hOps : RfsI w n ps (i + 1) v' w4 := by
     obtain ⟨h1, h2, h3, h4, h5⟩ := HP.out
     refine rfs_more (x := .slice xo (Dg.dg 65536 t.n).length xc) h1 h5 k2 k3 ⟨⟨xo, xc, by rw [h4]⟩, by rw [h4]; exact rx4, fun b hb => ?_⟩ ?_ hgrow hat
     ·intro _ a u v hv
      have := fx a u v hv
      have := hgb b hb
      omega
     ·unfold rfC
      rw [h2, h3, h4]
      exact hown'
    obtain ⟨c0, c1, c2, c3, c4⟩ := q3.cs5
    replace hrun : Hid _ := hrun
    clear rx3 rx4 sl3 sl4 bel3 bel4 hO3 al nl k1 k2 k3 hown' hgrow hat fx hi hz0 hz1 hz2 HI hw3 hgb HOp HDp HP hbl hsz hsz3 hws q3
    go_wp2_with (at_builtin; refine wpList_run_append rfl _ _ 25 rfl _ _ v' w4 rfl rfl hrun.out ?_)
    go_wp2
    go_roundw
    case rel => exact ⟨i + 1, by go_num, by omega, hOps, bel5, sl5⟩
    case measure => simp [intOf]; omega
   ·have hef : (er == 0) = false := by simpa using he
    go_wp2
    go_ret2
    obtain ⟨h1, -, -, -, h5⟩ := HP.out
    obtain ⟨cs, -, -, k3⟩ := hO2
    have hil : i < ps.length := by have := HM.out; omega
    have hd : ps.drop i = p :: ps.drop (i + 1) := by
     rw [List.drop_eq_getElem_cons hil]
     congr 1
     rw [List.getElem?_eq_getElem hil] at h1
     exact Option.some.inj h1
    have hE : errL n ps = er := by
     rw [k3, hd, ← h5]
     exact if_neg (by rw [h5]; exact he)
    have hf : famC n ≠ 0 := by
     have := HOK.out.1
     simpa using this.symm
    have hO : opnE n way ps = er := by
     unfold opnE
     rw [if_neg hf, hE, if_neg he]
    refine .inr ⟨by rw [hO]; exact he, ?_, bel2⟩
    rw [hO]
    rfl
  ·have HE : Hid (i = m) := (by omega : i = m)
   go_wp2_with fail
   refine (HY.out _).mono ?_
   rintro z w2 ⟨rfl, rfl⟩
   have hf : famC n ≠ 0 := by
    have := HOK.out.1
    simpa using this.symm
   obtain ⟨cs, k1, k2, k3⟩ := hO
   have h1 := HE.out
   have h2 := HM.out
   subst h1
   rw [List.take_of_length_le (by omega)] at k2
   rw [List.drop_of_length_le (by omega)] at k3
   replace k3 : errL n ps = 0 := k3
   have hO : opnE n way ps = if iw then 0 else 6 := by
    unfold opnE
    rw [if_neg hf, if_pos k3, HOK.out.2]
   replace hO : Hid _ := hO
   replace k3 : Hid _ := k3
   clear hf h2
   cases iw
   ·go_wp2
    go_ret2
    refine .inr ⟨by rw [hO.out]; decide, ?_, bel⟩
    rw [hO.out]
    rfl
   ·go_wp2
    go_ret2
    have h2 := HM.out
    refine .inl ⟨hO.out, u8, cs, rfl, ?_, k2, bel⟩
    rw [h2]
    exact k1
end Go.Proofs.YtnhackdjplppjaaGreatDoor
namespace Go.Proofs.YtnhackdjplppjaaGreatDoor
open Go.RowKit
set_option maxHeartbeats 6400000 in
theorem compares_W (n c e : Int) (ok : Bool) (a b : ByteArray) (w : World) (he : e ≠ 0 → c = 0 ∧ ok = false)
  (HA : ∀ w1, Below w.heap.size w w1 → Calls Tryz.prog 32 #[.int .i64 n, .string a, .string b] w1 fun z w' => z = .returned (.tuple #[.int .i64 c, .bool ok, .int .i64 e]) ∧ Below w1.heap.size w1 w')
  (HO : ∀ pb w1, LocE w1 pb 9 [.string a, .string b] → Calls Tryz.prog 18 #[.int .i64 n, .int .i64 1, .slice (some ⟨pb, 0, none⟩) 2 2] w1 (OpnRes w1 n [a, b] e))
  (HC : e = 0 → ∀ xo xc yo yc w1, Rd w1 .i64 (.slice xo (Dg.dg 65536 (rfT n a).n).length xc) (Dg.dg 65536 (rfT n a).n) → Rd w1 .i64 (.slice yo (Dg.dg 65536 (rfT n b).n).length yc) (Dg.dg 65536 (rfT n b).n) → Calls Tryz.prog 33 #[.agg #[.int .i64 ((decC n a : Nat) : Int), .bool (rfG n a), .bool (rfT n a).s, .slice xo (Dg.dg 65536 (rfT n a).n).length xc, .int .i64 (rfT n a).e], .agg #[.int .i64 ((decC n b : Nat) : Int), .bool (rfG n b), .bool (rfT n b).s, .slice yo (Dg.dg 65536 (rfT n b).n).length yc, .int .i64 (rfT n b).e]] w1 fun z w' => z = .returned (.tuple #[.int .i64 c, .bool ok]) ∧ Below w1.heap.size w1 w')
  (HB : ∀ w1, Below w.heap.size w w1 → Calls Tryz.prog 20 #[] w1 fun z w' => z = .returned (.bool true) ∧ Below w1.heap.size w1 w') :
  Calls Tryz.prog 9 #[.int .i64 n, .string a, .string b] w fun z w' => z = .returned (.bool true) ∧ Below w.heap.size w w' := by
 replace HA : Hid _ := HA
 replace HO : Hid _ := HO
 replace HC : Hid _ := HC
 replace HB : Hid _ := HB
 replace he : Hid _ := he
 go_enter Tryz.func9, Tryz.ntmps9
 go_wp2_with fail
 refine (HA.out _ (Below.refl _ _)).mono ?_
 rintro z w1 ⟨rfl, b1⟩
 have al := below_alloc w1 (.cells #[.string a, .string b] 9)
 have sl := locE_new w1 [.string a, .string b] 9
 have b02 := below_trans b1 al
 clear b1 al HA
 go_wp2_with fail
 refine (HO.out _ _ sl).mono ?_
 rintro z w2 hz
 clear HO sl
 rcases hz with ⟨h0, v, cs, rfl, hown, hat, b2⟩ | ⟨h0, rfl, b2⟩
 ·obtain ⟨g, cap, hv, hV⟩ := rfsV_of (by simp) hown hat
  subst hv
  have b03 := below_trans b02 b2
  replace HC : Hid _ := HC.out h0
  subst h0
  simp only [List.length_cons, List.length_nil, Nat.zero_add, Nat.reduceAdd] at hown ⊢
  clear b02 b2 hown hat he
  obtain ⟨xo, xc, rx, kx⟩ := hV.each 0 a rfl
  obtain ⟨yo, yc, ry, ky⟩ := hV.each 1 b rfl
  unfold rfC at rx ry
  clear hV
  go_upto_region 5 with fail
  have bW : Below w2.heap.size w2 w2.drew := (Below.refl _ _).drew
  have rxd := range_later rx bW
  have ryd := range_later ry bW
  have kxd := kx.later bW
  have kyd := ky.later bW
  have b05 := below_trans b03 bW
  clear bW
  refine wp_region_held_drew (S := fun wq => wq.rangeAt g (0 * 5) [.int .i64 ((decC n a : Nat) : Int), .bool (rfG n a), .bool (rfT n a).s, .slice xo (Dg.dg 65536 (rfT n a).n).length xc, .int .i64 (rfT n a).e] ∧ wq.rangeAt g (1 * 5) [.int .i64 ((decC n b : Nat) : Int), .bool (rfG n b), .bool (rfT n b).s, .slice yo (Dg.dg 65536 (rfT n b).n).length yc, .int .i64 (rfT n b).e]) (by kernel_rfl) ⟨rxd, ryd⟩ (fun hS0 => ?_)
  refine wpAnyH_take (i := 0) (v := .slice (some ⟨g, 0, none⟩) 2 cap) rfl (by kernel_rfl) (by kernel_rfl) (by kernel_rfl) (fun _ _ _ h => h) (Or.inl ⟨by kernel_rfl, fun w0 _ => by kernel_rfl⟩) hS0 ?_
  refine wpAnyH_take (i := 1) (v := .pointer (some ⟨g, 0, none⟩)) rfl (by kernel_rfl) (by kernel_rfl) (by kernel_rfl) (fun _ _ _ h => h) (Or.inl ⟨by kernel_rfl, fun w0 _ => by kernel_rfl⟩) hS0 ?_
  refine wpAnyH_take (i := 2) (v := .agg #[.int .i64 ((decC n a : Nat) : Int), .bool (rfG n a), .bool (rfT n a).s, .slice xo (Dg.dg 65536 (rfT n a).n).length xc, .int .i64 (rfT n a).e]) rfl (by kernel_rfl) (by kernel_rfl) (by kernel_rfl) (fun _ _ _ h => h) (Or.inl ⟨by kernel_rfl, fun w0 hw0 => xrow 32 (.tmp 34) rfl g 0 (by kernel_rfl) _ _ hw0.1 Tryz.underlying32 rfl (by kernel_rfl)⟩) hS0 ?_
  refine wpAnyH_take (i := 3) (v := .slice (some ⟨g, 0, none⟩) 2 cap) rfl (by kernel_rfl) (by kernel_rfl) (by kernel_rfl) (fun _ _ _ h => h) (Or.inl ⟨by kernel_rfl, fun w0 _ => by kernel_rfl⟩) hS0 ?_
  refine wpAnyH_take (i := 4) (v := .pointer (some ⟨g, 5, none⟩)) rfl (by kernel_rfl) (by kernel_rfl) (by kernel_rfl) (fun _ _ _ h => h) (Or.inl ⟨by kernel_rfl, fun w0 _ => by kernel_rfl⟩) hS0 ?_
  refine wpAnyH_take (i := 5) (v := .agg #[.int .i64 ((decC n b : Nat) : Int), .bool (rfG n b), .bool (rfT n b).s, .slice yo (Dg.dg 65536 (rfT n b).n).length yc, .int .i64 (rfT n b).e]) rfl (by kernel_rfl) (by kernel_rfl) (by kernel_rfl) (fun _ _ _ h => h) (Or.inl ⟨by kernel_rfl, fun w0 hw0 => xrow 32 (.tmp 37) rfl g 5 (by kernel_rfl) _ _ hw0.2 Tryz.underlying32 rfl (by kernel_rfl)⟩) hS0 ?_
  refine wpAnyH_ready (rs := [6]) (by kernel_rfl) (by simp) ?_
  refine AllReadyH.cons rfl (fun K hK => ?_) AllReadyH.nil
  go_simp
  refine (HC.out _ _ _ _ _ kxd kyd).mono ?_
  rintro z w6 ⟨rfl, b6⟩
  refine hK.out _ _ ⟨range_later rxd b6, range_later ryd b6⟩ (fun hS6 => ?_)
  have b06 := below_trans b05 b6
  clear hK K
  refine wpAnyH_take (i := 7) (v := .tuple #[.int .i64 c, .bool ok]) rfl (by kernel_rfl) (by kernel_rfl) (by kernel_rfl) (fun _ _ _ h => h) (Or.inl ⟨by kernel_rfl, fun w0 _ => by go_simp⟩) hS6 ?_
  refine wpAnyH_take (i := 8) (v := .int .i64 c) rfl (by kernel_rfl) (by kernel_rfl) (by kernel_rfl) (fun _ _ _ h => h) (Or.inl ⟨by kernel_rfl, fun w0 _ => by go_simp⟩) hS6 ?_
  refine wpAnyH_take (i := 9) (v := .bool ok) rfl (by kernel_rfl) (by kernel_rfl) (by kernel_rfl) (fun _ _ _ h => h) (Or.inl ⟨by kernel_rfl, fun w0 _ => by go_simp⟩) hS6 ?_
  refine wpAnyH_take (i := 10) (v := .int .i64 c) rfl (by kernel_rfl) (by kernel_rfl) (by kernel_rfl) (fun _ _ _ h => h) (Or.inl ⟨by kernel_rfl, fun w0 _ => by go_simp⟩) hS6 ?_
  refine wpAnyH_take (i := 11) (v := .bool ok) rfl (by kernel_rfl) (by kernel_rfl) (by kernel_rfl) (fun _ _ _ h => h) (Or.inl ⟨by kernel_rfl, fun w0 _ => by go_simp⟩) hS6 ?_
  simp only [Act.put, List.getElem_toArray, List.getElem_cons_succ, List.getElem_cons_zero, List.setIfInBounds_toArray, List.set_cons_zero, List.set_cons_succ]
  refine wpAnyH_done (by kernel_rfl) ?_ _
  clear hS0 hS6 kxd kyd rxd ryd b05 b6 rx ry kx ky b03 HC
  go_wp2_with fail
  refine (HB.out _ b06).mono ?_
  rintro z w7 ⟨rfl, b7⟩
  have b07 := below_trans b06 b7
  clear b7 b06 HB
  go_wp2
  go_ret
  exact ⟨by simp, b07⟩
 ·have b03 := below_trans b02 b2
  obtain ⟨rfl, rfl⟩ := he.out h0
  have hef : (e == 0) = false := by simpa using h0
  clear HC b02 b2 he h0
  go_wp2_with fail
  refine (HB.out _ b03).mono ?_
  rintro z w7 ⟨rfl, b7⟩
  have b07 := below_trans b03 b7
  clear b7 b03 HB
  go_wp2
  go_ret
  exact ⟨by simp, b07⟩
end Go.Proofs.YtnhackdjplppjaaGreatDoor
namespace Go.Proofs.YtnhackdjplppjaaGreatDoor
open Go.RowKit Go.ChangeMaps Go.MapKept
set_option maxHeartbeats 3200000 in
theorem dencode_W (n wy fam R D L G c p fl er : Int) (gr ng : Bool) (ao : Option Addr) (la ca : Nat) (st : ByteArray) (w : World)
  (HE : ∀ w1, Below w.heap.size w w1 → Calls Tryz.prog 44 #[.int .i64 n, .agg #[.int .i64 c, .bool ng, .slice ao la ca, .int .i64 p]] w1 fun z w' => z = .returned (.tuple #[.string st, .int .i64 er]) ∧ Below w1.heap.size w1 w') :
  Calls Tryz.prog 87 #[.agg #[.int .i64 n, .int .i64 wy, .int .i64 fam, .int .i64 R, .int .i64 D, .int .i64 L, .int .i64 G, .bool gr], .agg #[.int .i64 c, .bool ng, .slice ao la ca, .int .i64 p], .int .i64 fl] w fun z w' => z = .returned (if er = 0 then .tuple #[.string st, .int .i64 fl, .int .i64 0] else .tuple #[.string ⟨#[]⟩, .int .i64 0, .int .i64 er]) ∧ Below w.heap.size w w' := by
 replace HE : Hid _ := HE
 have ad := below_alloc w (.cells #[.int .i64 n, .int .i64 wy, .int .i64 fam, .int .i64 R, .int .i64 D, .int .i64 L, .int .i64 G, .bool gr] 93)
 have av := below_alloc (w.alloc (.cells #[.int .i64 n, .int .i64 wy, .int .i64 fam, .int .i64 R, .int .i64 D, .int .i64 L, .int .i64 G, .bool gr] 93)) (.cells #[.int .i64 c, .bool ng, .slice ao la ca, .int .i64 p] 73)
 have d0 := (locE_new w [.int .i64 n, .int .i64 wy, .int .i64 fam, .int .i64 R, .int .i64 D, .int .i64 L, .int .i64 G, .bool gr] 93).later av
 have v0 := locE_new (w.alloc (.cells #[.int .i64 n, .int .i64 wy, .int .i64 fam, .int .i64 R, .int .i64 D, .int .i64 L, .int .i64 G, .bool gr] 93)) [.int .i64 c, .bool ng, .slice ao la ca, .int .i64 p] 73
 rw [World.size_alloc] at v0
 have b0 := below_trans ad av
 clear ad av
 by_cases he : er = 0
 ·rw [if_pos he]
  subst he
  go_enter Tryz.func87, Tryz.ntmps87
  go_upto_region 1 with fail
  generalize (w.alloc (.cells #[.int .i64 n, .int .i64 wy, .int .i64 fam, .int .i64 R, .int .i64 D, .int .i64 L, .int .i64 G, .bool gr] 93)).alloc (.cells #[.int .i64 c, .bool ng, .slice ao la ca, .int .i64 p] 73) = W0 at d0 v0 b0 ⊢
  have y0 := d0.cell 0 rfl
  obtain ⟨x0, x1, x2, x3⟩ := v0.cs4
  go_wp2_with fail
  refine (HE.out _ b0).mono ?_
  rintro z w1 ⟨rfl, b1⟩
  have b01 := below_trans b0 b1
  go_wp2
  go_ret3
  exact ⟨rfl, b01⟩
 ·rw [if_neg he]
  have hef : (er == 0) = false := by simpa using he
  go_enter Tryz.func87, Tryz.ntmps87
  go_upto_region 1 with fail
  generalize (w.alloc (.cells #[.int .i64 n, .int .i64 wy, .int .i64 fam, .int .i64 R, .int .i64 D, .int .i64 L, .int .i64 G, .bool gr] 93)).alloc (.cells #[.int .i64 c, .bool ng, .slice ao la ca, .int .i64 p] 73) = W0 at d0 v0 b0 ⊢
  have y0 := d0.cell 0 rfl
  obtain ⟨x0, x1, x2, x3⟩ := v0.cs4
  go_wp2_with fail
  refine (HE.out _ b0).mono ?_
  rintro z w1 ⟨rfl, b1⟩
  have b01 := below_trans b0 b1
  clear he
  go_wp2
  go_ret3
  exact ⟨rfl, b01⟩
end Go.Proofs.YtnhackdjplppjaaGreatDoor

/-
  Rest: the walk of RestNats.
-/
import Derived.Test.YtmjhlflemfkflaaRn1
import Derived.Test.YtmjhlflemfkflaaNe
import Derived.Test.YtmjhlflemfkflaaNd
import Derived.Test.YtmjhlflemfkflaaRoo4
import Derived.Test.YtmjhlflemfkflaaIt
import Derived.Deep.Cut
import Derived.Deep.DeepCutAuto
namespace Go.Proofs.Ytmjhlflemfkflaa
open Go.RowKit

/-- Root answers so: what comes, if nothing is wrong, is a number. -/
def RootX (w : World) (c : Int) (e : Ending) (w' : World) : Prop :=
  ∃ zs v, e = .returned (.tuple #[v, .int .i64 c]) ∧ (c = 0 → chk zs = 0) ∧ Own w' w.heap.size 26 .u32 v zs ∧ Below w.heap.size w w'

theorem rd_take {w : World} {k : IntKind} {ao : Option Addr} {n c : Nat} {xs zs : List Nat} (h : Rd w k (.slice ao n c) (xs ++ zs)) : Rd w k (.slice ao xs.length c) xs := by
  obtain ⟨bo, cap, e, h1, h2, h3⟩ := h
  cases e
  simp only [List.length_append] at h1 h3
  refine ⟨ao, c, rfl, by omega, h2, fun hp => ?_⟩
  obtain ⟨b, off, h4, h5⟩ := h3 (by omega)
  refine ⟨b, off, h4, fun i hi => ?_⟩
  rw [h5 i (by omega), List.getD_eq_getElem?_getD, List.getElem?_append_left hi, ← List.getD_eq_getElem?_getD]

theorem getD_five (xs : List Nat) : (xs ++ [5, 6]).getD xs.length 0 = 5 := by simp [List.getD_eq_getElem?_getD]

theorem getD_six (xs : List Nat) : (xs ++ [5, 6]).getD (xs.length + 1) 0 = 6 := by simp [List.getD_eq_getElem?_getD]

set_option maxRecDepth 100000 in
set_option maxHeartbeats 12800000 in
theorem restNatsW (ao : Option Addr) (ca : Nat) (xs : List Nat) (bo : Option Addr) (cb : Nat) (ys : List Nat) (n nn kk : Int) (pd qd dd rd sd : List Nat) (e1 e2 e3 e4 e5 c : Int) (A B S1 S2 S3 Q R : Nat) (w : World)
    (ha : Rd w .u32 (.slice ao xs.length ca) xs) (hb : Rd w .u32 (.slice bo ys.length cb) ys) (hla : xs.length * 4 ≤ 140737488351232) (hlb : ys.length * 4 ≤ 140737488351232)
    (hn1 : 0 ≤ nn) (_hn2 : nn < 100) (hkk : 1 + nn % 10 = kk)
    (HBG : ∀ w1, Calls Try.prog 6 #[] w1 fun z w' => z = .returned (.bool true) ∧ Below w1.heap.size w1 w')
    (HCH : ∀ w1, Calls Try.prog 8 #[.int .i64 n, .int .i64 100] w1 fun z w' => z = .returned (.int .i64 nn) ∧ w' = w1)
    (HAD : ∀ v u w1, Rd w1 .u32 v xs → Rd w1 .u32 u ys → Calls Try.prog 9 #[v, u] w1 (Ans w1 (pd, e1)))
    (HMU : ∀ v u w1, Rd w1 .u32 v xs → Rd w1 .u32 u ys → Calls Try.prog 10 #[v, u] w1 (Ans w1 (qd, e2)))
    (HDI : ∀ v u w1, Rd w1 .u32 v xs → Rd w1 .u32 u ys → Calls Try.prog 11 #[v, u] w1 fun e w' => DivA w1 e w' dd rd e3)
    (HSH : ∀ v w1, Rd w1 .u32 v xs → Calls Try.prog 12 #[v, .int .i64 nn] w1 (Ans w1 (sd, e4)))
    (HRO : ∀ v w1, Rd w1 .u32 v xs → Calls Try.prog 13 #[v, .int .i64 kk] w1 (RootX w1 e5))
    (HSM : ∀ zs v u w1, Rd w1 .u32 v zs → Rd w1 .u32 u zs → Calls Try.prog 14 #[v, u] w1 fun z w' => z = .returned (.bool true) ∧ Below w1.heap.size w1 w')
    (HTW : ∀ w1, Below w.heap.size w w1 → Calls Try.prog 15 #[.slice ao xs.length ca, .slice bo ys.length cb] w1 fun z w' => z = .returned (.int .i64 c) ∧ w' = w1)
    (HOA : c = 0 → ∀ w1, Below w.heap.size w w1 → Calls Try.prog 18 #[.slice ao xs.length ca] w1 (RNum w1 A))
    (HOB : c = 0 → ∀ w1, Below w.heap.size w w1 → Calls Try.prog 18 #[.slice bo ys.length cb] w1 (RNum w1 B))
    (HPL : c = 0 → ∀ v u w1, Rd w1 .i64 v (Dg.dg 65536 A) → Rd w1 .i64 u (Dg.dg 65536 B) → Calls Try.prog 17 #[v, u] w1 (RNum w1 S1))
    (HTI : c = 0 → ∀ v u w1, Rd w1 .i64 v (Dg.dg 65536 A) → Rd w1 .i64 u (Dg.dg 65536 B) → Calls Try.prog 19 #[v, u] w1 (RNum w1 S2))
    (HUP : c = 0 → ∀ v w1, Rd w1 .i64 v (Dg.dg 65536 A) → Calls Try.prog 20 #[v, .int .i64 nn] w1 (RNum w1 S3))
    (HIN : c = 0 → e3 = 0 → ∀ v u w1, Rd w1 .i64 v (Dg.dg 65536 A) → Rd w1 .i64 u (Dg.dg 65536 B) → Calls Try.prog 21 #[v, u] w1 (RTwo w1 Q R))
    (HT1 : c = 0 → ∀ v w1, Rd w1 .i64 v (Dg.dg 65536 S1) → Calls Try.prog 16 #[v] w1 (Num w1 S1))
    (HT2 : c = 0 → ∀ v w1, Rd w1 .i64 v (Dg.dg 65536 S2) → Calls Try.prog 16 #[v] w1 (Num w1 S2))
    (HT3 : c = 0 → ∀ v w1, Rd w1 .i64 v (Dg.dg 65536 S3) → Calls Try.prog 16 #[v] w1 (Num w1 S3))
    (HTQ : c = 0 → ∀ v w1, Rd w1 .i64 v (Dg.dg 65536 Q) → Calls Try.prog 16 #[v] w1 (Num w1 Q))
    (HTR : c = 0 → ∀ v w1, Rd w1 .i64 v (Dg.dg 65536 R) → Calls Try.prog 16 #[v] w1 (Num w1 R))
    (E1 : c = 0 → e1 = 0 → pd = Dg.dg 4294967296 S1) (E2 : c = 0 → e2 = 0 → qd = Dg.dg 4294967296 S2) (E4 : c = 0 → e4 = 0 → sd = Dg.dg 4294967296 S3) (E3 : c = 0 → e3 = 0 → dd = Dg.dg 4294967296 Q ∧ rd = Dg.dg 4294967296 R)
    (HCK : ∀ zs v w1, Rd w1 .u32 v zs → Calls Try.prog 22 #[v] w1 fun z w' => z = .returned (.int .i64 (chk zs)) ∧ w' = w1) :
    Calls Try.prog 3 #[.slice ao xs.length ca, .slice bo ys.length cb, .int .i64 n] w fun z w' => z = .returned (.bool true) ∧ Below w.heap.size w w' := by
  have HA : Hid (Rd w .u32 (.slice ao xs.length ca) xs) := ha
  have HB : Hid (Rd w .u32 (.slice bo ys.length cb) ys) := hb
  replace HBG : Hid _ := HBG
  replace HCH : Hid _ := HCH
  replace HAD : Hid _ := HAD
  replace HMU : Hid _ := HMU
  replace HDI : Hid _ := HDI
  replace HSH : Hid _ := HSH
  replace HRO : Hid _ := HRO
  replace HSM : Hid _ := HSM
  replace HTW : Hid _ := HTW
  replace HOA : Hid _ := HOA
  replace HOB : Hid _ := HOB
  replace HPL : Hid _ := HPL
  replace HTI : Hid _ := HTI
  replace HUP : Hid _ := HUP
  replace HIN : Hid _ := HIN
  replace HT1 : Hid _ := HT1
  replace HT2 : Hid _ := HT2
  replace HT3 : Hid _ := HT3
  replace HTQ : Hid _ := HTQ
  replace HTR : Hid _ := HTR
  replace E1 : Hid _ := E1
  replace E2 : Hid _ := E2
  replace E4 : Hid _ := E4
  replace E3 : Hid _ := E3
  replace HCK : Hid _ := HCK
  have HTW1 : Hid (∀ v w1, Rd w1 .u32 v xs → Calls Try.prog 7 #[v] w1 fun e w' => ∃ v, e = .returned v ∧ Own w' w1.heap.size 26 .u32 v xs ∧ Below w1.heap.size w1 w') := fun v w1 r => twin_any v xs w1 r (by omega)
  have HTW2 : Hid (∀ v w1, Rd w1 .u32 v ys → Calls Try.prog 7 #[v] w1 fun e w' => ∃ v, e = .returned v ∧ Own w' w1.heap.size 26 .u32 v ys ∧ Below w1.heap.size w1 w') := fun v w1 r => twin_any v ys w1 r (by omega)
  obtain ⟨i0, hi, hz0, hz1, hz2⟩ := info_parts Try.infoU32
  clear ha hb
  go_enter Try.func3, Try.ntmps3
  go_wp2_with fail
  refine (HBG.out _).mono ?_
  rintro z w1 ⟨rfl, b1⟩
  go_wp2_with fail
  refine (HTW1.out _ _ (HA.out.later b1)).mono ?_
  rintro z w2 ⟨v2, rfl, o2, bb2⟩
  have b2 := below_trans b1 bb2
  have a56 := below_alloc w2 (.cells #[.int .u32 5, .int .u32 6] 26)
  have r56 : Rd (w2.alloc (.cells #[.int .u32 5, .int .u32 6] 26)) .u32 (.slice (some ⟨w2.heap.size, 0, none⟩) 2 2) [5, 6] := rd_new (w := w2) (k := .u32) (e := 26) [5, 6] #[.int .u32 5, .int .u32 6] rfl (by unfold maxLen; simp)
  obtain ⟨v7, w3, hrun, o7, gr7⟩ := append_rd_big (P := Try.prog) 23 23 i0 4 Try.underlying23 hi hz0 hz1 hz2 (o2.later a56) r56 (by unfold maxLen; simp only [List.length_cons, List.length_nil]; omega) (by simp only [List.length_cons, List.length_nil]; omega) (Nat.le_trans bb2.size a56.size)
  have b3 : Below w.heap.size w w3 := (below_trans b2 a56).grown gr7 (Nat.le_trans b2.size a56.size) (fun k hk => Nat.le_trans b1.size (World.ownsRow.lt o2 k hk).1)
  obtain ⟨g, rc, rfl, hg1, hg2⟩ := World.ownsRow.form o7 (by simp)
  have r7 := o7.rd
  have r8 := rd_take r7
  have r8 := rd_take r7
  skip
  go_wp2_with (at_builtin; refine wpList_append_run (by rfl) _ _ 23 (by rfl) _ _ _ w3 (by rfl) (by rfl) hrun ?_)
  clear hrun o7 gr7 r56 a56 o2 bb2 b2 b1
  obtain ⟨hcap, hmax, hcell⟩ := rd_open r7
  simp only [List.length_append, List.length_cons, List.length_nil] at hcap hcell
  obtain ⟨g', off', he, hcell⟩ := hcell (by omega)
  cases he
  simp only [Nat.zero_add] at hcell
  have h5 := hcell xs.length (by omega)
  have h6 := hcell (xs.length + 1) (by omega)
  rw [getD_five] at h5
  rw [getD_six] at h6
  clear hcell
  skip
  have R8 : Hid (Rd w3 .u32 (.slice (some ⟨g, 0, none⟩) xs.length rc) xs) := r8
  clear r7 r8
  have hcap2 : (xs.length : Int) ≤ (rc : Int) := by omega
  have bd : Below w3.heap.size w3 w3.drew := (Below.refl _ _).drew
  go_upto_region 4 with fail
  go_cut [8, 9] (fun s8 s9 wx => s8 = .slice (some ⟨g, 0, none⟩) xs.length rc ∧ Below w3.heap.size w3 wx ∧ Rd wx .u32 s9 ys)
  case first =>
    go_wp2_with fail
    go_region_held3 (fun wq => True) (trivial) (first
      | (go_at_call 7; (with_reducible (refine (HTW2.out _ _ (HB.out.later (below_trans b3 bd))).mono ?_)); rintro z wq ⟨v9, rfl, o9, bb9⟩; have b9 := below_trans bd bb9; have r9 := o9.rd))
    all_goals (go_wp2_with fail)
    all_goals (go_meet; exact ⟨rfl, b9, r9⟩)
  case rest =>
    obtain ⟨rfl, bb4, r9⟩ := hcut
    obtain ⟨yo, yk, h9⟩ := r9.shape
    subst h9
    have b4 := below_trans b3 bb4
    have R8 : Hid (Rd wc .u32 (.slice (some ⟨g, 0, none⟩) xs.length rc) xs) := R8.out.later bb4
    have g5 := cell_later bb4 h5
    have g6 := cell_later bb4 h6
    clear h5 h6 b3 bb4 bd
    have R9 : Hid (Rd wc .u32 (.slice yo ys.length yk) ys) := r9
    clear r9
    go_wp2_with fail
    refine (HCH.out _).mono ?_
    rintro z w5 ⟨rfl, rfl⟩
    go_wp2_with fail
    go_loopw [10] (fun iv wr => ∃ i : Nat, i ≤ 2 ∧ iv = .int .i64 i ∧ Below w5.heap.size w5 wr) (fun iv _ => 2 - (intOf iv).toNat)
    case atStart => exact ⟨0, by omega, rfl, Below.refl _ _⟩
    case round =>
      obtain ⟨i, hi2, rfl, bel⟩ := hrel
      by_cases hlt : i < 2
      · skip
        have X0 := R8.out.later bel
        have Y0 := R9.out.later bel
        have k5 := cell_later bel g5
        have k6 := cell_later bel g6
        go_wp2_with fail
        refine (HAD.out _ _ _ X0 Y0).mono ?_
        rintro z wa ⟨v11, rfl, o11, bbwa⟩
        simp only at o11 ⊢
        have bel1 := below_trans bel bbwa
        replace X0 := X0.later bbwa
        replace Y0 := Y0.later bbwa
        replace k5 := cell_later bbwa k5
        replace k6 := cell_later bbwa k6
        have p11 := own_wr o11 (B := w5.heap.size) bel.size
        have r11 := o11.rd
        clear o11
        go_wp2_with fail
        refine (HMU.out _ _ _ X0 Y0).mono ?_
        rintro z wb ⟨v13, rfl, o13, bbwb⟩
        simp only at o13 ⊢
        have bel2 := below_trans bel1 bbwb
        replace X0 := X0.later bbwb
        replace Y0 := Y0.later bbwb
        replace p11 := p11.later bbwb
        replace r11 := r11.later bbwb
        replace k5 := cell_later bbwb k5
        replace k6 := cell_later bbwb k6
        have p13 := own_wr o13 (B := w5.heap.size) bel1.size
        have r13 := o13.rd
        clear o13
        go_wp2_with fail
        refine (HDI.out _ _ _ X0 Y0).mono ?_
        rintro z wc1 ⟨v15, v16, rfl, o15, o16, bbwc1⟩
        have bel3 := below_trans bel2 bbwc1
        replace X0 := X0.later bbwc1
        replace Y0 := Y0.later bbwc1
        replace p11 := p11.later bbwc1
        replace r11 := r11.later bbwc1
        replace p13 := p13.later bbwc1
        replace r13 := r13.later bbwc1
        replace k5 := cell_later bbwc1 k5
        replace k6 := cell_later bbwc1 k6
        have p15 := own_wr o15 (B := w5.heap.size) bel2.size
        have r15 := o15.rd
        clear o15
        have p16 := own_wr o16 (B := w5.heap.size) bel2.size
        have r16 := o16.rd
        clear o16
        go_wp2_with fail
        refine (HSH.out _ _ X0).mono ?_
        rintro z wd ⟨v18, rfl, o18, bbwd⟩
        simp only at o18 ⊢
        have bel4 := below_trans bel3 bbwd
        replace X0 := X0.later bbwd
        replace Y0 := Y0.later bbwd
        replace p11 := p11.later bbwd
        replace r11 := r11.later bbwd
        replace p13 := p13.later bbwd
        replace r13 := r13.later bbwd
        replace p15 := p15.later bbwd
        replace r15 := r15.later bbwd
        replace p16 := p16.later bbwd
        replace r16 := r16.later bbwd
        replace k5 := cell_later bbwd k5
        replace k6 := cell_later bbwd k6
        have p18 := own_wr o18 (B := w5.heap.size) bel3.size
        have r18 := o18.rd
        clear o18
        have U1 : nn.tmod 10 = nn % 10 := Int.tmod_eq_emod_of_nonneg hn1
        have U2 : IntKind.i64.wrap (nn % 10) = nn % 10 := IntWalk.i64_in _ ⟨by omega, by omega⟩
        have U3 : IntKind.i64.wrap (1 + nn % 10) = kk := by rw [← hkk]; exact IntWalk.i64_in _ ⟨by omega, by omega⟩
        go_wp2_with fail
        refine (HRO.out _ _ X0).mono ?_
        rintro z we ⟨td, v20, rfl, hck, o20, bbwe⟩
        have bel5 := below_trans bel4 bbwe
        replace X0 := X0.later bbwe
        replace Y0 := Y0.later bbwe
        replace p11 := p11.later bbwe
        replace r11 := r11.later bbwe
        replace p13 := p13.later bbwe
        replace r13 := r13.later bbwe
        replace p15 := p15.later bbwe
        replace r15 := r15.later bbwe
        replace p16 := p16.later bbwe
        replace r16 := r16.later bbwe
        replace p18 := p18.later bbwe
        replace r18 := r18.later bbwe
        replace k5 := cell_later bbwe k5
        replace k6 := cell_later bbwe k6
        have p20 := own_wr o20 (B := w5.heap.size) bel4.size
        have r20 := o20.rd
        clear o20 U1 U2 U3
        obtain ⟨q11, t11, hq11⟩ := r11.shape
        subst hq11
        obtain ⟨q13, t13, hq13⟩ := r13.shape
        subst hq13
        obtain ⟨q15, t15, hq15⟩ := r15.shape
        subst hq15
        obtain ⟨q16, t16, hq16⟩ := r16.shape
        subst hq16
        obtain ⟨q18, t18, hq18⟩ := r18.shape
        subst hq18
        obtain ⟨q20, t20, hq20⟩ := r20.shape
        subst hq20
        have HCK1 : Hid (e5 = 0 → chk td = 0) := hck
        clear hck
        have BA := below_trans b4 bel5
        go_wp2_with fail
        refine (HSM.out xs _ _ _ X0 (HA.out.later BA)).mono ?_
        rintro z wf ⟨rfl, bbwf⟩
        clear BA
        have bel6 := below_trans bel5 bbwf
        replace X0 := X0.later bbwf
        replace Y0 := Y0.later bbwf
        replace p11 := p11.later bbwf
        replace r11 := r11.later bbwf
        replace p13 := p13.later bbwf
        replace r13 := r13.later bbwf
        replace p15 := p15.later bbwf
        replace r15 := r15.later bbwf
        replace p16 := p16.later bbwf
        replace r16 := r16.later bbwf
        replace p18 := p18.later bbwf
        replace r18 := r18.later bbwf
        replace p20 := p20.later bbwf
        replace r20 := r20.later bbwf
        replace k5 := cell_later bbwf k5
        replace k6 := cell_later bbwf k6
        have BA := below_trans b4 bel6
        go_wp2_with fail
        refine (HSM.out ys _ _ _ Y0 (HB.out.later BA)).mono ?_
        rintro z wg ⟨rfl, bbwg⟩
        clear BA
        have bel7 := below_trans bel6 bbwg
        replace X0 := X0.later bbwg
        replace Y0 := Y0.later bbwg
        replace p11 := p11.later bbwg
        replace r11 := r11.later bbwg
        replace p13 := p13.later bbwg
        replace r13 := r13.later bbwg
        replace p15 := p15.later bbwg
        replace r15 := r15.later bbwg
        replace p16 := p16.later bbwg
        replace r16 := r16.later bbwg
        replace p18 := p18.later bbwg
        replace r18 := r18.later bbwg
        replace p20 := p20.later bbwg
        replace r20 := r20.later bbwg
        replace k5 := cell_later bbwg k5
        replace k6 := cell_later bbwg k6
        have BA := below_trans b4 bel7
        have i5 : (xs.length : Int) < ((xs.length + 2 : Nat) : Int) := by omega
        have i6 : (xs.length : Int) + 1 < ((xs.length + 2 : Nat) : Int) := by omega
        have i7 : IntKind.i64.wrap ((xs.length : Int) + 1) = (xs.length : Int) + 1 := IntWalk.i64_in _ ⟨by omega, by omega⟩
        go_wp2_with fail
        refine (HTW.out _ BA).mono ?_
        rintro z wh ⟨rfl, rfl⟩
        clear i5 i6 i7
        go_upto_if 105 with fail
        go_cut [105] (fun s105 wx => Below wh.heap.size wh wx)
        case first =>
          by_cases hc : c = 0
          · skip
            replace HOA : Hid _ := HOA.out hc
            replace HOB : Hid _ := HOB.out hc
            replace HPL : Hid _ := HPL.out hc
            replace HTI : Hid _ := HTI.out hc
            replace HUP : Hid _ := HUP.out hc
            replace HIN : Hid _ := HIN.out hc
            replace HT1 : Hid _ := HT1.out hc
            replace HT2 : Hid _ := HT2.out hc
            replace HT3 : Hid _ := HT3.out hc
            replace HTQ : Hid _ := HTQ.out hc
            replace HTR : Hid _ := HTR.out hc
            replace E1 : Hid _ := E1.out hc
            replace E2 : Hid _ := E2.out hc
            replace E4 : Hid _ := E4.out hc
            replace E3 : Hid _ := E3.out hc
            subst hc
            clear p11 p13 p15 p16 p18 p20 HAD HMU HDI HSH HRO HTW HTW1 HTW2 HCH HBG
            have BW : Below wh.heap.size wh wh := Below.refl _ _
            go_upto_region 17 with fail
            go_cut [147] (fun s147 wx => s147 = .bool false ∧ Below wh.heap.size wh wx)
            case first =>
              by_cases he1 : e1 = 0
              · have hd1 := E1.out he1
                subst hd1 he1
                go_wp2_with fail
                refine (HOA.out _ (below_trans BA BW)).mono ?_
                rintro z u1 ⟨x1, rfl, y1, bu1⟩
                replace BW := below_trans BW bu1
                replace r11 := r11.later bu1
                replace r13 := r13.later bu1
                replace r18 := r18.later bu1
                go_wp2_with fail
                refine (HOB.out _ (below_trans BA BW)).mono ?_
                rintro z u2 ⟨x2, rfl, y2, bu2⟩
                replace BW := below_trans BW bu2
                replace y1 := y1.later bu2
                replace r11 := r11.later bu2
                replace r13 := r13.later bu2
                replace r18 := r18.later bu2
                go_wp2_with fail
                refine (HPL.out _ _ _ y1 y2).mono ?_
                rintro z u3 ⟨x3, rfl, y3, bu3⟩
                replace BW := below_trans BW bu3
                replace r11 := r11.later bu3
                replace r13 := r13.later bu3
                replace r18 := r18.later bu3
                go_wp2_with fail
                refine (HT1.out _ _ y3).mono ?_
                rintro z u4 ⟨x4, rfl, y4, bu4⟩
                replace BW := below_trans BW bu4
                replace r11 := r11.later bu4
                replace r13 := r13.later bu4
                replace r18 := r18.later bu4
                have y5 := y4.rd
                go_wp2_with fail
                refine (HSM.out _ _ _ _ r11 y5).mono ?_
                rintro z u5 ⟨rfl, bu5⟩
                replace BW := below_trans BW bu5
                replace r11 := r11.later bu5
                replace r13 := r13.later bu5
                replace r18 := r18.later bu5
                clear y1 y2 y3 y4 y5 bu1 bu2 bu3 bu4 bu5
                by_cases he2 : e2 = 0
                · have hd2 := E2.out he2
                  subst hd2 he2
                  go_wp2_with fail
                  refine (HOA.out _ (below_trans BA BW)).mono ?_
                  rintro z u1 ⟨x1, rfl, y1, bu1⟩
                  replace BW := below_trans BW bu1
                  replace r11 := r11.later bu1
                  replace r13 := r13.later bu1
                  replace r18 := r18.later bu1
                  go_wp2_with fail
                  refine (HOB.out _ (below_trans BA BW)).mono ?_
                  rintro z u2 ⟨x2, rfl, y2, bu2⟩
                  replace BW := below_trans BW bu2
                  replace y1 := y1.later bu2
                  replace r11 := r11.later bu2
                  replace r13 := r13.later bu2
                  replace r18 := r18.later bu2
                  go_wp2_with fail
                  refine (HTI.out _ _ _ y1 y2).mono ?_
                  rintro z u3 ⟨x3, rfl, y3, bu3⟩
                  replace BW := below_trans BW bu3
                  replace r11 := r11.later bu3
                  replace r13 := r13.later bu3
                  replace r18 := r18.later bu3
                  go_wp2_with fail
                  refine (HT2.out _ _ y3).mono ?_
                  rintro z u4 ⟨x4, rfl, y4, bu4⟩
                  replace BW := below_trans BW bu4
                  replace r11 := r11.later bu4
                  replace r13 := r13.later bu4
                  replace r18 := r18.later bu4
                  have y5 := y4.rd
                  go_wp2_with fail
                  refine (HSM.out _ _ _ _ r13 y5).mono ?_
                  rintro z u5 ⟨rfl, bu5⟩
                  replace BW := below_trans BW bu5
                  replace r11 := r11.later bu5
                  replace r13 := r13.later bu5
                  replace r18 := r18.later bu5
                  clear y1 y2 y3 y4 y5 bu1 bu2 bu3 bu4 bu5
                  by_cases he4 : e4 = 0
                  · have hd4 := E4.out he4
                    subst hd4 he4
                    go_wp2_with fail
                    refine (HOA.out _ (below_trans BA BW)).mono ?_
                    rintro z u1 ⟨x1, rfl, y1, bu1⟩
                    replace BW := below_trans BW bu1
                    replace r11 := r11.later bu1
                    replace r13 := r13.later bu1
                    replace r18 := r18.later bu1
                    go_wp2_with fail
                    refine (HUP.out _ _ y1).mono ?_
                    rintro z u3 ⟨x3, rfl, y3, bu3⟩
                    replace BW := below_trans BW bu3
                    replace r11 := r11.later bu3
                    replace r13 := r13.later bu3
                    replace r18 := r18.later bu3
                    go_wp2_with fail
                    refine (HT3.out _ _ y3).mono ?_
                    rintro z u4 ⟨x4, rfl, y4, bu4⟩
                    replace BW := below_trans BW bu4
                    replace r11 := r11.later bu4
                    replace r13 := r13.later bu4
                    replace r18 := r18.later bu4
                    have y5 := y4.rd
                    go_wp2_with fail
                    refine (HSM.out _ _ _ _ r18 y5).mono ?_
                    rintro z u5 ⟨rfl, bu5⟩
                    replace BW := below_trans BW bu5
                    replace r11 := r11.later bu5
                    replace r13 := r13.later bu5
                    replace r18 := r18.later bu5
                    clear y1  y3 y4 y5 bu1  bu3 bu4 bu5
                    go_wp2_with fail
                    go_meet
                    exact ⟨rfl, BW⟩
                  · have hf4 : (e4 == 0) = false := by simp [he4]
                    go_wp2_with fail
                    go_meet
                    exact ⟨rfl, BW⟩
                · have hf2 : (e2 == 0) = false := by simp [he2]
                  by_cases he4 : e4 = 0
                  · have hd4 := E4.out he4
                    subst hd4 he4
                    go_wp2_with fail
                    refine (HOA.out _ (below_trans BA BW)).mono ?_
                    rintro z u1 ⟨x1, rfl, y1, bu1⟩
                    replace BW := below_trans BW bu1
                    replace r11 := r11.later bu1
                    replace r13 := r13.later bu1
                    replace r18 := r18.later bu1
                    go_wp2_with fail
                    refine (HUP.out _ _ y1).mono ?_
                    rintro z u3 ⟨x3, rfl, y3, bu3⟩
                    replace BW := below_trans BW bu3
                    replace r11 := r11.later bu3
                    replace r13 := r13.later bu3
                    replace r18 := r18.later bu3
                    go_wp2_with fail
                    refine (HT3.out _ _ y3).mono ?_
                    rintro z u4 ⟨x4, rfl, y4, bu4⟩
                    replace BW := below_trans BW bu4
                    replace r11 := r11.later bu4
                    replace r13 := r13.later bu4
                    replace r18 := r18.later bu4
                    have y5 := y4.rd
                    go_wp2_with fail
                    refine (HSM.out _ _ _ _ r18 y5).mono ?_
                    rintro z u5 ⟨rfl, bu5⟩
                    replace BW := below_trans BW bu5
                    replace r11 := r11.later bu5
                    replace r13 := r13.later bu5
                    replace r18 := r18.later bu5
                    clear y1  y3 y4 y5 bu1  bu3 bu4 bu5
                    go_wp2_with fail
                    go_meet
                    exact ⟨rfl, BW⟩
                  · have hf4 : (e4 == 0) = false := by simp [he4]
                    go_wp2_with fail
                    go_meet
                    exact ⟨rfl, BW⟩
              · have hf1 : (e1 == 0) = false := by simp [he1]
                by_cases he2 : e2 = 0
                · have hd2 := E2.out he2
                  subst hd2 he2
                  go_wp2_with fail
                  refine (HOA.out _ (below_trans BA BW)).mono ?_
                  rintro z u1 ⟨x1, rfl, y1, bu1⟩
                  replace BW := below_trans BW bu1
                  replace r11 := r11.later bu1
                  replace r13 := r13.later bu1
                  replace r18 := r18.later bu1
                  go_wp2_with fail
                  refine (HOB.out _ (below_trans BA BW)).mono ?_
                  rintro z u2 ⟨x2, rfl, y2, bu2⟩
                  replace BW := below_trans BW bu2
                  replace y1 := y1.later bu2
                  replace r11 := r11.later bu2
                  replace r13 := r13.later bu2
                  replace r18 := r18.later bu2
                  go_wp2_with fail
                  refine (HTI.out _ _ _ y1 y2).mono ?_
                  rintro z u3 ⟨x3, rfl, y3, bu3⟩
                  replace BW := below_trans BW bu3
                  replace r11 := r11.later bu3
                  replace r13 := r13.later bu3
                  replace r18 := r18.later bu3
                  go_wp2_with fail
                  refine (HT2.out _ _ y3).mono ?_
                  rintro z u4 ⟨x4, rfl, y4, bu4⟩
                  replace BW := below_trans BW bu4
                  replace r11 := r11.later bu4
                  replace r13 := r13.later bu4
                  replace r18 := r18.later bu4
                  have y5 := y4.rd
                  go_wp2_with fail
                  refine (HSM.out _ _ _ _ r13 y5).mono ?_
                  rintro z u5 ⟨rfl, bu5⟩
                  replace BW := below_trans BW bu5
                  replace r11 := r11.later bu5
                  replace r13 := r13.later bu5
                  replace r18 := r18.later bu5
                  clear y1 y2 y3 y4 y5 bu1 bu2 bu3 bu4 bu5
                  by_cases he4 : e4 = 0
                  · have hd4 := E4.out he4
                    subst hd4 he4
                    go_wp2_with fail
                    refine (HOA.out _ (below_trans BA BW)).mono ?_
                    rintro z u1 ⟨x1, rfl, y1, bu1⟩
                    replace BW := below_trans BW bu1
                    replace r11 := r11.later bu1
                    replace r13 := r13.later bu1
                    replace r18 := r18.later bu1
                    go_wp2_with fail
                    refine (HUP.out _ _ y1).mono ?_
                    rintro z u3 ⟨x3, rfl, y3, bu3⟩
                    replace BW := below_trans BW bu3
                    replace r11 := r11.later bu3
                    replace r13 := r13.later bu3
                    replace r18 := r18.later bu3
                    go_wp2_with fail
                    refine (HT3.out _ _ y3).mono ?_
                    rintro z u4 ⟨x4, rfl, y4, bu4⟩
                    replace BW := below_trans BW bu4
                    replace r11 := r11.later bu4
                    replace r13 := r13.later bu4
                    replace r18 := r18.later bu4
                    have y5 := y4.rd
                    go_wp2_with fail
                    refine (HSM.out _ _ _ _ r18 y5).mono ?_
                    rintro z u5 ⟨rfl, bu5⟩
                    replace BW := below_trans BW bu5
                    replace r11 := r11.later bu5
                    replace r13 := r13.later bu5
                    replace r18 := r18.later bu5
                    clear y1  y3 y4 y5 bu1  bu3 bu4 bu5
                    go_wp2_with fail
                    go_meet
                    exact ⟨rfl, BW⟩
                  · have hf4 : (e4 == 0) = false := by simp [he4]
                    go_wp2_with fail
                    go_meet
                    exact ⟨rfl, BW⟩
                · have hf2 : (e2 == 0) = false := by simp [he2]
                  by_cases he4 : e4 = 0
                  · have hd4 := E4.out he4
                    subst hd4 he4
                    go_wp2_with fail
                    refine (HOA.out _ (below_trans BA BW)).mono ?_
                    rintro z u1 ⟨x1, rfl, y1, bu1⟩
                    replace BW := below_trans BW bu1
                    replace r11 := r11.later bu1
                    replace r13 := r13.later bu1
                    replace r18 := r18.later bu1
                    go_wp2_with fail
                    refine (HUP.out _ _ y1).mono ?_
                    rintro z u3 ⟨x3, rfl, y3, bu3⟩
                    replace BW := below_trans BW bu3
                    replace r11 := r11.later bu3
                    replace r13 := r13.later bu3
                    replace r18 := r18.later bu3
                    go_wp2_with fail
                    refine (HT3.out _ _ y3).mono ?_
                    rintro z u4 ⟨x4, rfl, y4, bu4⟩
                    replace BW := below_trans BW bu4
                    replace r11 := r11.later bu4
                    replace r13 := r13.later bu4
                    replace r18 := r18.later bu4
                    have y5 := y4.rd
                    go_wp2_with fail
                    refine (HSM.out _ _ _ _ r18 y5).mono ?_
                    rintro z u5 ⟨rfl, bu5⟩
                    replace BW := below_trans BW bu5
                    replace r11 := r11.later bu5
                    replace r13 := r13.later bu5
                    replace r18 := r18.later bu5
                    clear y1  y3 y4 y5 bu1  bu3 bu4 bu5
                    go_wp2_with fail
                    go_meet
                    exact ⟨rfl, BW⟩
                  · have hf4 : (e4 == 0) = false := by simp [he4]
                    go_wp2_with fail
                    go_meet
                    exact ⟨rfl, BW⟩
            case rest =>
              obtain ⟨rfl, BW⟩ := hcut
              replace r15 := r15.later BW
              replace r16 := r16.later BW
              replace r20 := r20.later BW
              by_cases he3 : e3 = 0
              · obtain ⟨hdq, hdr⟩ := E3.out he3
                replace HIN : Hid _ := HIN.out he3
                subst hdq hdr he3
                go_wp2_with fail
                refine (HOA.out _ (below_trans BA BW)).mono ?_
                rintro z u1 ⟨x1, rfl, y1, bu1⟩
                replace BW := below_trans BW bu1
                replace r15 := r15.later bu1
                replace r16 := r16.later bu1
                replace r20 := r20.later bu1
                go_wp2_with fail
                refine (HOB.out _ (below_trans BA BW)).mono ?_
                rintro z u2 ⟨x2, rfl, y2, bu2⟩
                replace y1 := y1.later bu2
                replace BW := below_trans BW bu2
                replace r15 := r15.later bu2
                replace r16 := r16.later bu2
                replace r20 := r20.later bu2
                go_wp2_with fail
                refine (HIN.out _ _ _ y1 y2).mono ?_
                rintro z u3 ⟨x3, x4, rfl, y3, y4, bu3⟩
                replace BW := below_trans BW bu3
                replace r15 := r15.later bu3
                replace r16 := r16.later bu3
                replace r20 := r20.later bu3
                go_wp2_with fail
                refine (HTQ.out _ _ y3).mono ?_
                rintro z u4 ⟨x5, rfl, y5, bu4⟩
                replace y4 := y4.later bu4
                have y6 := y5.rd
                replace BW := below_trans BW bu4
                replace r15 := r15.later bu4
                replace r16 := r16.later bu4
                replace r20 := r20.later bu4
                go_wp2_with fail
                refine (HSM.out _ _ _ _ r15 y6).mono ?_
                rintro z u5 ⟨rfl, bu5⟩
                replace y4 := y4.later bu5
                replace BW := below_trans BW bu5
                replace r15 := r15.later bu5
                replace r16 := r16.later bu5
                replace r20 := r20.later bu5
                go_wp2_with fail
                refine (HTR.out _ _ y4).mono ?_
                rintro z u6 ⟨x7, rfl, y7, bu6⟩
                have y8 := y7.rd
                replace BW := below_trans BW bu6
                replace r15 := r15.later bu6
                replace r16 := r16.later bu6
                replace r20 := r20.later bu6
                go_wp2_with fail
                refine (HSM.out _ _ _ _ r16 y8).mono ?_
                rintro z u7 ⟨rfl, bu7⟩
                replace BW := below_trans BW bu7
                replace r15 := r15.later bu7
                replace r16 := r16.later bu7
                replace r20 := r20.later bu7
                by_cases he5 : e5 = 0
                · have hk5 : Hid (chk td = 0) := HCK1.out he5
                  subst he5
                  go_wp2_with fail
                  refine (HCK.out _ _ _ r20).mono ?_
                  rintro z u8 ⟨rfl, rfl⟩
                  rw [hk5.out]
                  go_wp2_with fail
                  go_meet
                  exact BW
                · have ht5 : (e5 == 0) = false := by simp [he5]
                  go_wp2_with fail
                  go_meet
                  exact BW
              · have ht3 : (e3 == 0) = false := by simp [he3]
                by_cases he5 : e5 = 0
                · have hk5 : Hid (chk td = 0) := HCK1.out he5
                  subst he5
                  go_wp2_with fail
                  refine (HCK.out _ _ _ r20).mono ?_
                  rintro z u8 ⟨rfl, rfl⟩
                  rw [hk5.out]
                  go_wp2_with fail
                  go_meet
                  exact BW
                · have ht5 : (e5 == 0) = false := by simp [he5]
                  go_wp2_with fail
                  go_meet
                  exact BW
          · have hcf : (c == 0) = false := by simp [hc]
            go_wp2_with fail
            go_meet
            exact Below.refl _ _
        case rest =>
          have bwx := hcut
          replace p11 := p11.later bwx
          replace p13 := p13.later bwx
          replace p15 := p15.later bwx
          replace p16 := p16.later bwx
          replace p18 := p18.later bwx
          replace p20 := p20.later bwx
          have BZ : Below w5.heap.size w5 wc := below_trans bel7 bwx
          go_wp2_with fail
          refine (spoil_any _ _ _ p11).mono ?_
          rintro z x0 ⟨⟨z0, rfl⟩, bx, hx⟩
          replace BZ := BZ.trans bx
          replace p13 := hx _ _ p13
          replace p15 := hx _ _ p15
          replace p16 := hx _ _ p16
          replace p18 := hx _ _ p18
          replace p20 := hx _ _ p20
          clear bx hx
          go_wp2_with fail
          refine (spoil_any _ _ _ p13).mono ?_
          rintro z x1 ⟨⟨z1, rfl⟩, bx, hx⟩
          replace BZ := BZ.trans bx
          replace p15 := hx _ _ p15
          replace p16 := hx _ _ p16
          replace p18 := hx _ _ p18
          replace p20 := hx _ _ p20
          clear bx hx
          go_wp2_with fail
          refine (spoil_any _ _ _ p15).mono ?_
          rintro z x2 ⟨⟨z2, rfl⟩, bx, hx⟩
          replace BZ := BZ.trans bx
          replace p16 := hx _ _ p16
          replace p18 := hx _ _ p18
          replace p20 := hx _ _ p20
          clear bx hx
          go_wp2_with fail
          refine (spoil_any _ _ _ p16).mono ?_
          rintro z x3 ⟨⟨z3, rfl⟩, bx, hx⟩
          replace BZ := BZ.trans bx
          replace p18 := hx _ _ p18
          replace p20 := hx _ _ p20
          clear bx hx
          go_wp2_with fail
          refine (spoil_any _ _ _ p18).mono ?_
          rintro z x4 ⟨⟨z4, rfl⟩, bx, hx⟩
          replace BZ := BZ.trans bx
          replace p20 := hx _ _ p20
          clear bx hx
          go_wp2_with fail
          refine (spoil_any _ _ _ p20).mono ?_
          rintro z x5 ⟨⟨z5, rfl⟩, bx, hx⟩
          replace BZ := BZ.trans bx
          clear bx hx
          go_wp2_with fail
          go_roundw
          case rel => exact ⟨i + 1, by omega, by go_num, BZ⟩
          case measure => simp [intOf]; omega
      · go_wp2
        go_ret
        exact ⟨rfl, below_trans b4 bel⟩
end Go.Proofs.Ytmjhlflemfkflaa

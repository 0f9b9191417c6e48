/-
  The walk of the law NatReads.
-/
import Derived.Test.YtkaenhbodbkmfaaUndec
namespace Go.Proofs.Ytkaenhbodbkmfaa
open Go.RowKit

/-- Is a text none that is printed, as far as its first k bytes tell? -/
def FormP (s : ByteArray) (k : Nat) : Prop := s.size = 0 ∨ (byt s 0 = 48 ∧ 1 < s.size) ∨ ∃ i, i < k ∧ ¬ (48 ≤ byt s i ∧ byt s i ≤ 57)

theorem form_a {s : ByteArray} (h : s.size = 0) : true = true ↔ FormP s 0 := ⟨fun _ => .inl h, fun _ => rfl⟩
theorem form_b {s : ByteArray} (h : Hid (byt s 0 = 48)) (h2 : 1 < s.size) : true = true ↔ FormP s 0 := ⟨fun _ => .inr (.inl ⟨h, h2⟩), fun _ => rfl⟩
theorem form_c {s : ByteArray} (h : ¬ s.size = 0) (h2 : Hid (¬ (byt s 0 = 48 ∧ 1 < s.size))) : false = true ↔ FormP s 0 := by
  constructor
  · intro e; cases e
  · rintro (e | e | ⟨i, hi, _⟩)
    · exact absurd e h
    · exact absurd e h2
    · omega
theorem form_true {s : ByteArray} {k : Nat} (h : true = true ↔ FormP s k) : true = true ↔ FormP s (k + 1) := by
  refine ⟨fun _ => ?_, fun _ => rfl⟩
  rcases h.1 rfl with e | e | ⟨i, hi, e⟩
  · exact .inl e
  · exact .inr (.inl e)
  · exact .inr (.inr ⟨i, by omega, e⟩)
theorem form_false {s : ByteArray} {k : Nat} {d : Bool} (h : false = true ↔ FormP s k) (hd : decide (48 ≤ byt s k ∧ byt s k ≤ 57) = d) : (!d) = true ↔ FormP s (k + 1) := by
  have hn : ¬ FormP s k := fun e => by cases h.2 e
  constructor
  · intro e
    refine .inr (.inr ⟨k, by omega, ?_⟩)
    have : d = false := by simpa using e
    rw [this] at hd
    exact of_decide_eq_false hd
  · rintro (e | e | ⟨i, hi, e⟩)
    · exact absurd (.inl e) hn
    · exact absurd (.inr (.inl e)) hn
    · by_cases hik : i = k
      · subst hik
        rw [decide_eq_false e] at hd
        rw [← hd]; rfl
      · exact absurd (.inr (.inr ⟨i, by omega, e⟩)) hn
theorem form_end (s : ByteArray) : FormP s s.size ↔ ¬ Pr s := by
  constructor
  · rintro (e | ⟨e1, e2⟩ | ⟨i, hi, e⟩) hp
    · exact hp.1 e
    · have := hp.2.1 e1; omega
    · exact e (hp.2.2 i hi)
  · intro hp
    by_cases h0 : s.size = 0
    · exact .inl h0
    · by_cases h1 : byt s 0 = 48 ∧ 1 < s.size
      · exact .inr (.inl h1)
      · by_cases h2 : ∃ i, i < s.size ∧ ¬ (48 ≤ byt s i ∧ byt s i ≤ 57)
        · exact .inr (.inr h2)
        · exfalso
          apply hp
          refine ⟨h0, fun h => ?_, fun i hi => ?_⟩
          · by_cases h3 : s.size = 1
            · exact h3
            · exact absurd ⟨h, by omega⟩ h1
          · by_cases h3 : 48 ≤ byt s i ∧ byt s i ≤ 57
            · exact h3
            · exact absurd ⟨i, hi, h3⟩ h2

set_option maxRecDepth 100000 in
set_option maxHeartbeats 3200000 in
theorem reads_long (s : ByteArray) (w : World) (hm : s.size ≤ 9223372036854775807) (hl : 12000 < s.size) :
    Calls Try.prog 13 #[.string s] w fun e w' => e = .returned (.bool true) ∧ Below w.heap.size w w' := by
  obtain ⟨r, hr, h1⟩ := read_nat s w hm
  have e := hr.1 hl
  subst e
  clear hr
  have h0 : ¬ s.size = 0 := by omega
  have h00 : ((s.size : Int) == 0) = false := beq_eq_false_iff_ne.2 (by omega)
  have hi0 : ∀ w, (Instr.index 9 (.string s) (.int .i64 0)).run Try.prog w = .ok (.int .u8 ((byt s 0 : Nat) : Int)) w := index_byt s 0 (by omega)
  obtain ⟨x, ex⟩ : ∃ x, byt s 0 = x := ⟨_, rfl⟩
  rw [ex] at hi0
  have hx8 : x < 256 := by rw [← ex]; exact byt_lt s 0
  by_cases hx48 : x = 48
  · subst hx48
    have hx : Hid (byt s 0 = 48) := ex
    have hi1 : ∀ w, (Instr.index 9 (.string s) (.int .i64 0)).run Try.prog w = .ok (.int .u8 48) w := hi0
    clear hi0 ex
    by_cases hsz : 1 < s.size
    · have hszb : decide ((1 : Int) < (s.size : Int)) = true := decide_eq_true (by omega)
      go_enter Try.func13, Try.ntmps13
      go_wp2_with fail
      refine h1.mono ?_
      rintro e w1 ⟨v, rfl, own, b1⟩
      clear h1
      go_wp2
      go_loop [7, 8] (fun fv iv => ∃ (k : Nat) (f : Bool), k ≤ s.size ∧ iv = .int .i64 k ∧ fv = .bool f ∧ Hid (f = true ↔ FormP s k)) (fun _ iv => s.size - (intOf iv).toNat)
      case atStart => exact ⟨0, _, Nat.zero_le _, rfl, rfl, form_b hx hsz⟩
      case round =>
        obtain ⟨k, f, hk, rfl, rfl, hf⟩ := hrel
        by_cases hlt : k < s.size
        · cases f with
          | true =>
            go_wp2
            go_round
            case rel => exact ⟨k + 1, true, by omega, by go_num, rfl, form_true hf.out⟩
            case measure => simp [intOf]; omega
          | false =>
            have hdg := isDigit_any s k w1 hlt hm
            obtain ⟨dg, hdd⟩ : ∃ dg, decide (48 ≤ byt s k ∧ byt s k ≤ 57) = dg := ⟨_, rfl⟩
            rw [hdd] at hdg
            have HF : Hid ((!dg) = true ↔ FormP s (k + 1)) := form_false hf.out hdd
            clear hdd
            go_wp2_with fail
            refine hdg.mono ?_
            rintro e w' ⟨rfl, rfl⟩
            clear hdg
            go_wp2
            go_round
            case rel => exact ⟨k + 1, !dg, by omega, by go_num, rfl, HF⟩
            case measure => simp [intOf]; omega
        · have hke : k = s.size := by omega
          subst hke
          cases f with
          | true =>
            go_wp2_with fail
            refine (begun_any _).mono ?_
            rintro e w5 ⟨rfl, b5⟩
            have b15 := below_trans b1 b5
            have hni := natIs_true v (.slice none 0 0) [] 2 0 w5 (own.later b5).rd (nil_rd _) (by simp [Dg.dg_zero]) (by rw [if_neg (by omega)])
            go_wp2_with fail
            refine hni.mono ?_
            rintro e w7 ⟨rfl, b7⟩
            have b17 := below_trans b15 b7
            clear hni
            go_wp2
            go_ret
            exact ⟨rfl, b17⟩
          | false =>
            go_wp2_with fail
            refine (begun_any _).mono ?_
            rintro e w5 ⟨rfl, b5⟩
            have b15 := below_trans b1 b5
            have hni := natIs_true v (.slice none 0 0) [] 2 0 w5 (own.later b5).rd (nil_rd _) (by simp [Dg.dg_zero]) (by rw [if_neg (by omega)])
            go_wp2_with fail
            refine hni.mono ?_
            rintro e w7 ⟨rfl, b7⟩
            have b17 := below_trans b15 b7
            clear hni
            go_wp2
            go_ret
            exact ⟨rfl, b17⟩
    · omega
  · have hC : Hid (¬ (byt s 0 = 48 ∧ 1 < s.size)) := fun h => hx48 (ex.symm.trans h.1)
    have hxb : ((x : Int) == 48) = false := beq_eq_false_iff_ne.2 (by omega)
    clear ex
    go_enter Try.func13, Try.ntmps13
    go_wp2_with fail
    refine h1.mono ?_
    rintro e w1 ⟨v, rfl, own, b1⟩
    clear h1
    go_wp2
    go_loop [7, 8] (fun fv iv => ∃ (k : Nat) (f : Bool), k ≤ s.size ∧ iv = .int .i64 k ∧ fv = .bool f ∧ Hid (f = true ↔ FormP s k)) (fun _ iv => s.size - (intOf iv).toNat)
    case atStart => exact ⟨0, _, Nat.zero_le _, rfl, rfl, form_c h0 hC⟩
    case round =>
      obtain ⟨k, f, hk, rfl, rfl, hf⟩ := hrel
      by_cases hlt : k < s.size
      · cases f with
        | true =>
          go_wp2
          go_round
          case rel => exact ⟨k + 1, true, by omega, by go_num, rfl, form_true hf.out⟩
          case measure => simp [intOf]; omega
        | false =>
          have hdg := isDigit_any s k w1 hlt hm
          obtain ⟨dg, hdd⟩ : ∃ dg, decide (48 ≤ byt s k ∧ byt s k ≤ 57) = dg := ⟨_, rfl⟩
          rw [hdd] at hdg
          have HF : Hid ((!dg) = true ↔ FormP s (k + 1)) := form_false hf.out hdd
          clear hdd
          go_wp2_with fail
          refine hdg.mono ?_
          rintro e w' ⟨rfl, rfl⟩
          clear hdg
          go_wp2
          go_round
          case rel => exact ⟨k + 1, !dg, by omega, by go_num, rfl, HF⟩
          case measure => simp [intOf]; omega
      · have hke : k = s.size := by omega
        subst hke
        cases f with
        | true =>
          go_wp2_with fail
          refine (begun_any _).mono ?_
          rintro e w5 ⟨rfl, b5⟩
          have b15 := below_trans b1 b5
          have hni := natIs_true v (.slice none 0 0) [] 2 0 w5 (own.later b5).rd (nil_rd _) (by simp [Dg.dg_zero]) (by rw [if_neg (by omega)])
          go_wp2_with fail
          refine hni.mono ?_
          rintro e w7 ⟨rfl, b7⟩
          have b17 := below_trans b15 b7
          clear hni
          go_wp2
          go_ret
          exact ⟨rfl, b17⟩
        | false =>
          go_wp2_with fail
          refine (begun_any _).mono ?_
          rintro e w5 ⟨rfl, b5⟩
          have b15 := below_trans b1 b5
          have hni := natIs_true v (.slice none 0 0) [] 2 0 w5 (own.later b5).rd (nil_rd _) (by simp [Dg.dg_zero]) (by rw [if_neg (by omega)])
          go_wp2_with fail
          refine hni.mono ?_
          rintro e w7 ⟨rfl, b7⟩
          have b17 := below_trans b15 b7
          clear hni
          go_wp2
          go_ret
          exact ⟨rfl, b17⟩

set_option maxRecDepth 100000 in
set_option maxHeartbeats 3200000 in
theorem reads_bad (s : ByteArray) (w : World) (hl : s.size ≤ 12000) (hPr : ¬ Pr s) (hne : ¬ s.size = 0) :
    Calls Try.prog 13 #[.string s] w fun e w' => e = .returned (.bool true) ∧ Below w.heap.size w w' := by
  have hm : s.size ≤ 9223372036854775807 := by omega
  obtain ⟨r, hr, h1⟩ := read_nat s w hm
  have e := hr.2.1 hl hPr
  subst e
  clear hr
  have h0 := hne
  have h00 : ((s.size : Int) == 0) = false := beq_eq_false_iff_ne.2 (by omega)
  have hi0 : ∀ w, (Instr.index 9 (.string s) (.int .i64 0)).run Try.prog w = .ok (.int .u8 ((byt s 0 : Nat) : Int)) w := index_byt s 0 (by omega)
  obtain ⟨x, ex⟩ : ∃ x, byt s 0 = x := ⟨_, rfl⟩
  rw [ex] at hi0
  have hx8 : x < 256 := by rw [← ex]; exact byt_lt s 0
  by_cases hx48 : x = 48
  · subst hx48
    have hx : Hid (byt s 0 = 48) := ex
    have hi1 : ∀ w, (Instr.index 9 (.string s) (.int .i64 0)).run Try.prog w = .ok (.int .u8 48) w := hi0
    clear hi0 ex
    by_cases hsz : 1 < s.size
    · have hszb : decide ((1 : Int) < (s.size : Int)) = true := decide_eq_true (by omega)
      go_enter Try.func13, Try.ntmps13
      go_wp2_with fail
      refine h1.mono ?_
      rintro e w1 ⟨v, rfl, own, b1⟩
      clear h1
      go_wp2
      go_loop [7, 8] (fun fv iv => ∃ (k : Nat) (f : Bool), k ≤ s.size ∧ iv = .int .i64 k ∧ fv = .bool f ∧ Hid (f = true ↔ FormP s k)) (fun _ iv => s.size - (intOf iv).toNat)
      case atStart => exact ⟨0, _, Nat.zero_le _, rfl, rfl, form_b hx hsz⟩
      case round =>
        obtain ⟨k, f, hk, rfl, rfl, hf⟩ := hrel
        by_cases hlt : k < s.size
        · cases f with
          | true =>
            go_wp2
            go_round
            case rel => exact ⟨k + 1, true, by omega, by go_num, rfl, form_true hf.out⟩
            case measure => simp [intOf]; omega
          | false =>
            have hdg := isDigit_any s k w1 hlt hm
            obtain ⟨dg, hdd⟩ : ∃ dg, decide (48 ≤ byt s k ∧ byt s k ≤ 57) = dg := ⟨_, rfl⟩
            rw [hdd] at hdg
            have HF : Hid ((!dg) = true ↔ FormP s (k + 1)) := form_false hf.out hdd
            clear hdd
            go_wp2_with fail
            refine hdg.mono ?_
            rintro e w' ⟨rfl, rfl⟩
            clear hdg
            go_wp2
            go_round
            case rel => exact ⟨k + 1, !dg, by omega, by go_num, rfl, HF⟩
            case measure => simp [intOf]; omega
        · have hke : k = s.size := by omega
          subst hke
          have hft : f = true := hf.out.2 ((form_end s).2 hPr)
          subst hft
          go_wp2_with fail
          refine (begun_any _).mono ?_
          rintro e w5 ⟨rfl, b5⟩
          have b15 := below_trans b1 b5
          have hni := natIs_true v (.slice none 0 0) [] 1 0 w5 (own.later b5).rd (nil_rd _) (by simp [Dg.dg_zero]) (by rw [if_neg (by omega)])
          go_wp2_with fail
          refine hni.mono ?_
          rintro e w7 ⟨rfl, b7⟩
          have b17 := below_trans b15 b7
          clear hni
          go_wp2
          go_ret
          exact ⟨rfl, b17⟩
    · have hC : Hid (¬ (byt s 0 = 48 ∧ 1 < s.size)) := fun h => hsz h.2
      have hszb : decide ((1 : Int) < (s.size : Int)) = false := decide_eq_false (by omega)
      go_enter Try.func13, Try.ntmps13
      go_wp2_with fail
      refine h1.mono ?_
      rintro e w1 ⟨v, rfl, own, b1⟩
      clear h1
      go_wp2
      go_loop [7, 8] (fun fv iv => ∃ (k : Nat) (f : Bool), k ≤ s.size ∧ iv = .int .i64 k ∧ fv = .bool f ∧ Hid (f = true ↔ FormP s k)) (fun _ iv => s.size - (intOf iv).toNat)
      case atStart => exact ⟨0, _, Nat.zero_le _, rfl, rfl, form_c h0 hC⟩
      case round =>
        obtain ⟨k, f, hk, rfl, rfl, hf⟩ := hrel
        by_cases hlt : k < s.size
        · cases f with
          | true =>
            go_wp2
            go_round
            case rel => exact ⟨k + 1, true, by omega, by go_num, rfl, form_true hf.out⟩
            case measure => simp [intOf]; omega
          | false =>
            have hdg := isDigit_any s k w1 hlt hm
            obtain ⟨dg, hdd⟩ : ∃ dg, decide (48 ≤ byt s k ∧ byt s k ≤ 57) = dg := ⟨_, rfl⟩
            rw [hdd] at hdg
            have HF : Hid ((!dg) = true ↔ FormP s (k + 1)) := form_false hf.out hdd
            clear hdd
            go_wp2_with fail
            refine hdg.mono ?_
            rintro e w' ⟨rfl, rfl⟩
            clear hdg
            go_wp2
            go_round
            case rel => exact ⟨k + 1, !dg, by omega, by go_num, rfl, HF⟩
            case measure => simp [intOf]; omega
        · have hke : k = s.size := by omega
          subst hke
          have hft : f = true := hf.out.2 ((form_end s).2 hPr)
          subst hft
          go_wp2_with fail
          refine (begun_any _).mono ?_
          rintro e w5 ⟨rfl, b5⟩
          have b15 := below_trans b1 b5
          have hni := natIs_true v (.slice none 0 0) [] 1 0 w5 (own.later b5).rd (nil_rd _) (by simp [Dg.dg_zero]) (by rw [if_neg (by omega)])
          go_wp2_with fail
          refine hni.mono ?_
          rintro e w7 ⟨rfl, b7⟩
          have b17 := below_trans b15 b7
          clear hni
          go_wp2
          go_ret
          exact ⟨rfl, b17⟩
  · have hC : Hid (¬ (byt s 0 = 48 ∧ 1 < s.size)) := fun h => hx48 (ex.symm.trans h.1)
    have hxb : ((x : Int) == 48) = false := beq_eq_false_iff_ne.2 (by omega)
    clear ex
    go_enter Try.func13, Try.ntmps13
    go_wp2_with fail
    refine h1.mono ?_
    rintro e w1 ⟨v, rfl, own, b1⟩
    clear h1
    go_wp2
    go_loop [7, 8] (fun fv iv => ∃ (k : Nat) (f : Bool), k ≤ s.size ∧ iv = .int .i64 k ∧ fv = .bool f ∧ Hid (f = true ↔ FormP s k)) (fun _ iv => s.size - (intOf iv).toNat)
    case atStart => exact ⟨0, _, Nat.zero_le _, rfl, rfl, form_c h0 hC⟩
    case round =>
      obtain ⟨k, f, hk, rfl, rfl, hf⟩ := hrel
      by_cases hlt : k < s.size
      · cases f with
        | true =>
          go_wp2
          go_round
          case rel => exact ⟨k + 1, true, by omega, by go_num, rfl, form_true hf.out⟩
          case measure => simp [intOf]; omega
        | false =>
          have hdg := isDigit_any s k w1 hlt hm
          obtain ⟨dg, hdd⟩ : ∃ dg, decide (48 ≤ byt s k ∧ byt s k ≤ 57) = dg := ⟨_, rfl⟩
          rw [hdd] at hdg
          have HF : Hid ((!dg) = true ↔ FormP s (k + 1)) := form_false hf.out hdd
          clear hdd
          go_wp2_with fail
          refine hdg.mono ?_
          rintro e w' ⟨rfl, rfl⟩
          clear hdg
          go_wp2
          go_round
          case rel => exact ⟨k + 1, !dg, by omega, by go_num, rfl, HF⟩
          case measure => simp [intOf]; omega
      · have hke : k = s.size := by omega
        subst hke
        have hft : f = true := hf.out.2 ((form_end s).2 hPr)
        subst hft
        go_wp2_with fail
        refine (begun_any _).mono ?_
        rintro e w5 ⟨rfl, b5⟩
        have b15 := below_trans b1 b5
        have hni := natIs_true v (.slice none 0 0) [] 1 0 w5 (own.later b5).rd (nil_rd _) (by simp [Dg.dg_zero]) (by rw [if_neg (by omega)])
        go_wp2_with fail
        refine hni.mono ?_
        rintro e w7 ⟨rfl, b7⟩
        have b17 := below_trans b15 b7
        clear hni
        go_wp2
        go_ret
        exact ⟨rfl, b17⟩

set_option maxRecDepth 100000 in
set_option maxHeartbeats 3200000 in
theorem reads_good (s : ByteArray) (w : World) (hl : s.size ≤ 12000) (hPr : Pr s) :
    Calls Try.prog 13 #[.string s] w fun e w' => e = .returned (.bool true) ∧ Below w.heap.size w w' := by
  have hm : s.size ≤ 9223372036854775807 := by omega
  obtain ⟨r, hr, h1⟩ := read_nat s w hm
  have e := hr.2.2 hl hPr
  have hnl : (Dg.dg 65536 (pv s s.size)).length ≤ 3000000 := by
    refine Nat.le_trans (Dg.dg_len_le 65536 _ s.size (by omega) ?_) (by omega)
    exact Nat.lt_of_lt_of_le (pv_lt s hPr.2.2 s.size (Nat.le_refl _)) (Nat.pow_le_pow_left (by omega) _)
  have hsp := capd_split (pv s s.size)
  have hlo : ∀ vw w1, Rd w1 .i64 vw (Dg.dg 65536 (pv s s.size)) → Calls Try.prog 30 #[.int .i64 0, vw] w1 fun e w' => e = .returned (.int .i64 r.2) ∧ Below w1.heap.size w1 w' := fun vw w1 hw => by
    have := long_any vw _ w1 hw hnl
    rwa [← e] at this
  rw [← e] at hsp
  have HSP : Hid (r.1 = if r.2 = 0 then Dg.dg 4294967296 (pv s s.size) else []) := hsp
  have HLO : Hid (∀ vw w1, Rd w1 .i64 vw (Dg.dg 65536 (pv s s.size)) → Calls Try.prog 30 #[.int .i64 0, vw] w1 fun e w' => e = .returned (.int .i64 r.2) ∧ Below w1.heap.size w1 w') := hlo
  clear hr e hsp hlo
  have h0 := hPr.1
  have h00 : ((s.size : Int) == 0) = false := beq_eq_false_iff_ne.2 (by omega)
  have hi0 : ∀ w, (Instr.index 9 (.string s) (.int .i64 0)).run Try.prog w = .ok (.int .u8 ((byt s 0 : Nat) : Int)) w := index_byt s 0 (by omega)
  obtain ⟨x, ex⟩ : ∃ x, byt s 0 = x := ⟨_, rfl⟩
  rw [ex] at hi0
  have hx8 : x < 256 := by rw [← ex]; exact byt_lt s 0
  by_cases hx48 : x = 48
  · subst hx48
    have hx : Hid (byt s 0 = 48) := ex
    have hi1 : ∀ w, (Instr.index 9 (.string s) (.int .i64 0)).run Try.prog w = .ok (.int .u8 48) w := hi0
    clear hi0 ex
    by_cases hsz : 1 < s.size
    · have hszb : decide ((1 : Int) < (s.size : Int)) = true := decide_eq_true (by omega)
      go_enter Try.func13, Try.ntmps13
      go_wp2_with fail
      refine h1.mono ?_
      rintro e w1 ⟨v, rfl, own, b1⟩
      clear h1
      go_wp2
      go_loop [7, 8] (fun fv iv => ∃ (k : Nat) (f : Bool), k ≤ s.size ∧ iv = .int .i64 k ∧ fv = .bool f ∧ Hid (f = true ↔ FormP s k)) (fun _ iv => s.size - (intOf iv).toNat)
      case atStart => exact ⟨0, _, Nat.zero_le _, rfl, rfl, form_b hx hsz⟩
      case round =>
        obtain ⟨k, f, hk, rfl, rfl, hf⟩ := hrel
        by_cases hlt : k < s.size
        · cases f with
          | true =>
            go_wp2
            go_round
            case rel => exact ⟨k + 1, true, by omega, by go_num, rfl, form_true hf.out⟩
            case measure => simp [intOf]; omega
          | false =>
            have hdg := isDigit_any s k w1 hlt hm
            obtain ⟨dg, hdd⟩ : ∃ dg, decide (48 ≤ byt s k ∧ byt s k ≤ 57) = dg := ⟨_, rfl⟩
            rw [hdd] at hdg
            have HF : Hid ((!dg) = true ↔ FormP s (k + 1)) := form_false hf.out hdd
            clear hdd
            go_wp2_with fail
            refine hdg.mono ?_
            rintro e w' ⟨rfl, rfl⟩
            clear hdg
            go_wp2
            go_round
            case rel => exact ⟨k + 1, !dg, by omega, by go_num, rfl, HF⟩
            case measure => simp [intOf]; omega
        · have hke : k = s.size := by omega
          subst hke
          have hft : f = false := by
            cases f with
            | false => rfl
            | true => exact absurd hPr ((form_end s).1 (hf.out.1 rfl))
          subst hft
          go_wp2_with fail
          refine (undecimal_any s _ (by omega) hPr.2.2).mono ?_
          rintro e w2 ⟨v2, rfl, r2, b2⟩
          have b12 := below_trans b1 b2
          go_wp2_with fail
          refine (HLO.out v2 w2 r2).mono ?_
          rintro e w4 ⟨rfl, b4⟩
          have b14 := below_trans b12 b4
          go_wp2_with fail
          refine (begun_any _).mono ?_
          rintro e w5 ⟨rfl, b5⟩
          have b15 := below_trans b14 b5
          have b25 := below_trans (below_trans b2 b4) b5
          have hni := natIs_true v v2 r.1 r.2 _ w5 (own.later b25).rd (r2.later (below_trans b4 b5)) hnl HSP.out
          go_wp2_with fail
          refine hni.mono ?_
          rintro e w7 ⟨rfl, b7⟩
          have b17 := below_trans b15 b7
          clear hni
          go_wp2
          go_ret
          exact ⟨rfl, b17⟩
    · have hC : Hid (¬ (byt s 0 = 48 ∧ 1 < s.size)) := fun h => hsz h.2
      have hszb : decide ((1 : Int) < (s.size : Int)) = false := decide_eq_false (by omega)
      go_enter Try.func13, Try.ntmps13
      go_wp2_with fail
      refine h1.mono ?_
      rintro e w1 ⟨v, rfl, own, b1⟩
      clear h1
      go_wp2
      go_loop [7, 8] (fun fv iv => ∃ (k : Nat) (f : Bool), k ≤ s.size ∧ iv = .int .i64 k ∧ fv = .bool f ∧ Hid (f = true ↔ FormP s k)) (fun _ iv => s.size - (intOf iv).toNat)
      case atStart => exact ⟨0, _, Nat.zero_le _, rfl, rfl, form_c h0 hC⟩
      case round =>
        obtain ⟨k, f, hk, rfl, rfl, hf⟩ := hrel
        by_cases hlt : k < s.size
        · cases f with
          | true =>
            go_wp2
            go_round
            case rel => exact ⟨k + 1, true, by omega, by go_num, rfl, form_true hf.out⟩
            case measure => simp [intOf]; omega
          | false =>
            have hdg := isDigit_any s k w1 hlt hm
            obtain ⟨dg, hdd⟩ : ∃ dg, decide (48 ≤ byt s k ∧ byt s k ≤ 57) = dg := ⟨_, rfl⟩
            rw [hdd] at hdg
            have HF : Hid ((!dg) = true ↔ FormP s (k + 1)) := form_false hf.out hdd
            clear hdd
            go_wp2_with fail
            refine hdg.mono ?_
            rintro e w' ⟨rfl, rfl⟩
            clear hdg
            go_wp2
            go_round
            case rel => exact ⟨k + 1, !dg, by omega, by go_num, rfl, HF⟩
            case measure => simp [intOf]; omega
        · have hke : k = s.size := by omega
          subst hke
          have hft : f = false := by
            cases f with
            | false => rfl
            | true => exact absurd hPr ((form_end s).1 (hf.out.1 rfl))
          subst hft
          go_wp2_with fail
          refine (undecimal_any s _ (by omega) hPr.2.2).mono ?_
          rintro e w2 ⟨v2, rfl, r2, b2⟩
          have b12 := below_trans b1 b2
          go_wp2_with fail
          refine (HLO.out v2 w2 r2).mono ?_
          rintro e w4 ⟨rfl, b4⟩
          have b14 := below_trans b12 b4
          go_wp2_with fail
          refine (begun_any _).mono ?_
          rintro e w5 ⟨rfl, b5⟩
          have b15 := below_trans b14 b5
          have b25 := below_trans (below_trans b2 b4) b5
          have hni := natIs_true v v2 r.1 r.2 _ w5 (own.later b25).rd (r2.later (below_trans b4 b5)) hnl HSP.out
          go_wp2_with fail
          refine hni.mono ?_
          rintro e w7 ⟨rfl, b7⟩
          have b17 := below_trans b15 b7
          clear hni
          go_wp2
          go_ret
          exact ⟨rfl, b17⟩
  · have hC : Hid (¬ (byt s 0 = 48 ∧ 1 < s.size)) := fun h => hx48 (ex.symm.trans h.1)
    have hxb : ((x : Int) == 48) = false := beq_eq_false_iff_ne.2 (by omega)
    clear ex
    go_enter Try.func13, Try.ntmps13
    go_wp2_with fail
    refine h1.mono ?_
    rintro e w1 ⟨v, rfl, own, b1⟩
    clear h1
    go_wp2
    go_loop [7, 8] (fun fv iv => ∃ (k : Nat) (f : Bool), k ≤ s.size ∧ iv = .int .i64 k ∧ fv = .bool f ∧ Hid (f = true ↔ FormP s k)) (fun _ iv => s.size - (intOf iv).toNat)
    case atStart => exact ⟨0, _, Nat.zero_le _, rfl, rfl, form_c h0 hC⟩
    case round =>
      obtain ⟨k, f, hk, rfl, rfl, hf⟩ := hrel
      by_cases hlt : k < s.size
      · cases f with
        | true =>
          go_wp2
          go_round
          case rel => exact ⟨k + 1, true, by omega, by go_num, rfl, form_true hf.out⟩
          case measure => simp [intOf]; omega
        | false =>
          have hdg := isDigit_any s k w1 hlt hm
          obtain ⟨dg, hdd⟩ : ∃ dg, decide (48 ≤ byt s k ∧ byt s k ≤ 57) = dg := ⟨_, rfl⟩
          rw [hdd] at hdg
          have HF : Hid ((!dg) = true ↔ FormP s (k + 1)) := form_false hf.out hdd
          clear hdd
          go_wp2_with fail
          refine hdg.mono ?_
          rintro e w' ⟨rfl, rfl⟩
          clear hdg
          go_wp2
          go_round
          case rel => exact ⟨k + 1, !dg, by omega, by go_num, rfl, HF⟩
          case measure => simp [intOf]; omega
      · have hke : k = s.size := by omega
        subst hke
        have hft : f = false := by
          cases f with
          | false => rfl
          | true => exact absurd hPr ((form_end s).1 (hf.out.1 rfl))
        subst hft
        go_wp2_with fail
        refine (undecimal_any s _ (by omega) hPr.2.2).mono ?_
        rintro e w2 ⟨v2, rfl, r2, b2⟩
        have b12 := below_trans b1 b2
        go_wp2_with fail
        refine (HLO.out v2 w2 r2).mono ?_
        rintro e w4 ⟨rfl, b4⟩
        have b14 := below_trans b12 b4
        go_wp2_with fail
        refine (begun_any _).mono ?_
        rintro e w5 ⟨rfl, b5⟩
        have b15 := below_trans b14 b5
        have b25 := below_trans (below_trans b2 b4) b5
        have hni := natIs_true v v2 r.1 r.2 _ w5 (own.later b25).rd (r2.later (below_trans b4 b5)) hnl HSP.out
        go_wp2_with fail
        refine hni.mono ?_
        rintro e w7 ⟨rfl, b7⟩
        have b17 := below_trans b15 b7
        clear hni
        go_wp2
        go_ret
        exact ⟨rfl, b17⟩

theorem reads_empty (w : World) :
    Calls Try.prog 13 #[.string ⟨#[]⟩] w fun e w' => e = .returned (.bool true) ∧ Below w.heap.size w w' := by
  obtain ⟨r, hr, h1⟩ := read_nat ⟨#[]⟩ w (by decide)
  have e := hr.2.1 (by decide) (fun h => h.1 rfl)
  subst e
  clear hr
  go_enter Try.func13, Try.ntmps13
  go_wp2_with fail
  refine h1.mono ?_
  rintro e w1 ⟨v, rfl, own, b1⟩
  clear h1
  go_wp2
  refine wp_loop_rounds 1 ?_
  rw [rounds_succ]
  go_wp2_with fail
  refine (begun_any _).mono ?_
  rintro e w5 ⟨rfl, b5⟩
  have b15 := below_trans b1 b5
  have hni := natIs_true v (.slice none 0 0) [] 1 0 w5 (own.later b5).rd (nil_rd _) (by simp [Dg.dg_zero]) (by rw [if_neg (by omega)])
  go_wp2_with fail
  refine hni.mono ?_
  rintro e w7 ⟨rfl, b7⟩
  have b17 := below_trans b15 b7
  clear hni
  go_wp2
  go_ret
  exact ⟨rfl, b17⟩

theorem reads_walk (s : ByteArray) (w : World) (hm : s.size ≤ 9223372036854775807) :
    Calls Try.prog 13 #[.string s] w fun e w' => e = .returned (.bool true) ∧ Below w.heap.size w w' := by
  by_cases hl : 12000 < s.size
  · exact reads_long s w hm hl
  · by_cases hPr : Pr s
    · exact reads_good s w (by omega) hPr
    · by_cases h0 : s.size = 0
      · have := size_zero s h0
        subst this
        exact reads_empty w
      · exact reads_bad s w (by omega) hPr h0
end Go.Proofs.Ytkaenhbodbkmfaa

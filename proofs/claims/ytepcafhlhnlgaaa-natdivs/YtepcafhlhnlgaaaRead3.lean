/-
  Contracts of FromDecimal and nat.Read.
-/
import Derived.Test.YtepcafhlhnlgaaaRead1
import Derived.Test.YtepcafhlhnlgaaaRead2
namespace Go.Proofs.Ytepcafhlhnlgaaa
open Go.RowKit

/-- The value of the first k digits of a text. -/
def pv (s : ByteArray) : Nat → Nat
  | 0 => 0
  | k + 1 => pv s k * 10 + (byt s k - 48)

theorem pv_lt (s : ByteArray) (hd : ∀ i, i < s.size → 48 ≤ byt s i ∧ byt s i ≤ 57) : ∀ k, k ≤ s.size → pv s k < 10 ^ k := by
  intro k
  induction k with
  | zero => intro _; simp [pv]
  | succ k ih =>
    intro h
    have := ih (by omega)
    have := hd k (by omega)
    simp only [pv, Nat.pow_succ]
    omega

theorem byt_extract (s : ByteArray) (a i : Nat) (h : a + i < s.size) : byt (s.extract a s.size) i = byt s (a + i) := by
  unfold byt
  congr 1
  have h1 : i < (s.extract a s.size).size := by simp; omega
  rw [getElem?_pos _ i h1, getElem?_pos s (a + i) h]
  simp only [Option.getD_some]
  show (s.extract a s.size).data[i] = s.data[a + i]
  simp [ByteArray.data_extract]

/-- The text T is what is left of s behind p. -/
def Tail (s T : ByteArray) (p : Nat) : Prop := p + T.size = s.size ∧ ∀ i, i < T.size → byt T i = byt s (p + i)

theorem tail_step {s T : ByteArray} {p n : Nat} (h : Tail s T p) (hn : n ≤ T.size) : Tail s (T.extract n T.size) (p + n) := by
  refine ⟨by have := h.1; simp; omega, fun i hi => ?_⟩
  have hi2 : n + i < T.size := by simp at hi; omega
  rw [byt_extract T n i hi2, h.2 (n + i) hi2, Nat.add_assoc]

/-- What the loop over a group keeps. -/
def GrpI (s : ByteArray) (p i g sc : Nat) : Prop := pv s (p + i) = pv s p * 10 ^ i + g ∧ g < 10 ^ i ∧ sc = 10 ^ i

theorem grp_step {s : ByteArray} {p i g sc x : Nat} (h : GrpI s p i g sc) (hx : byt s (p + i) = x) (h1 : 48 ≤ x) (h2 : x ≤ 57) : GrpI s p (i + 1) (g * 10 + (x - 48)) (sc * 10) := by
  obtain ⟨a, b, c⟩ := h
  refine ⟨?_, ?_, ?_⟩
  · show pv s (p + i) * 10 + (byt s (p + i) - 48) = _
    rw [a, hx, Nat.pow_succ, Nat.add_mul, Nat.mul_assoc]
    omega
  · rw [Nat.pow_succ]; omega
  · rw [c, Nat.pow_succ]

theorem pv_digits (s : ByteArray) (hd : ∀ i, i < s.size → 48 ≤ byt s i ∧ byt s i ≤ 57) (hs : s.size ≤ 12000) (p : Nat) (hp : p ≤ s.size) : (Dg.dg 4294967296 (pv s p)).length ≤ 12000 := by
  refine Nat.le_trans (Dg.dg_len_le 4294967296 _ p (by omega) ?_) (by omega)
  exact Nat.lt_of_lt_of_le (pv_lt s hd p hp) (Nat.pow_le_pow_left (by omega) p)

/-- What the outer loop keeps. -/
def FromR (w : World) (s : ByteArray) (r : Nat) (tv av : Value) (wr : World) : Prop :=
  ∃ (p : Nat) (T : ByteArray), tv = .string T ∧ Tail s T p ∧ T.size = r ∧ Own wr w.heap.size 58 .u32 av (Dg.dg 4294967296 (pv s p)) ∧ Below w.heap.size w wr

set_option maxRecDepth 100000 in
set_option maxHeartbeats 3200000 in
theorem fromDecimal_any (s : ByteArray) (w : World) (hs : s.size ≤ 12000) (hd : ∀ i, i < s.size → 48 ≤ byt s i ∧ byt s i ≤ 57) :
    Calls Try.prog 69 #[.string s] w (Num w (pv s s.size)) := by
  have HD : Hid (∀ i, i < s.size → 48 ≤ byt s i ∧ byt s i ≤ 57) := hd
  clear hd
  go_enter Try.func69, Try.ntmps69
  go_wp2
  go_loopg [0, 3] s.size (fun r tv av wr => FromR w s r tv av wr)
  case atStart => exact ⟨0, s, rfl, ⟨by omega, fun i _ => by rw [Nat.zero_add]⟩, rfl, own_nil _ _ _ _, Below.refl _ _⟩
  case round =>
    obtain ⟨p, T, rfl, hT, hTs, own, bel⟩ := hrel
    have hp1 := hT.1
    rw [hTs] at hp1
    by_cases hz : gk = 0
    · have hps : p = s.size := by omega
      subst hz hps
      clear hp1
      have hTz : ¬ ((0 : Int) < (T.size : Int)) := by omega
      go_wp2
      go_ret
      exact ⟨_, rfl, own, bel⟩
    · have hps : p ≤ s.size := by omega
      have hnum := pv_digits s HD.out hs p hps
      obtain ⟨n, hn⟩ : ∃ n, (gk - 1) % 9 + 1 = n := ⟨_, rfl⟩
      have hnI : ((T.size : Int) - 1) % 9 + 1 = (n : Int) := by omega
      have hn9 : n ≤ 9 := by omega
      have hnT : n ≤ T.size := by omega
      have HTS : Hid (T.size = gk) := hTs
      have hTl : T.size ≤ 12000 := by omega
      have hTp : 0 < T.size := by omega
      have HP : Hid (p + gk = s.size) := hp1
      clear hn hTs hp1
      go_wp2
      go_loop [5, 6, 17] (fun gv cv iv => ∃ i g sc : Nat, i ≤ n ∧ iv = .int .i64 i ∧ gv = .int .u32 g ∧ cv = .int .u32 sc ∧ g < 1000000000 ∧ sc ≤ 1000000000 ∧ Hid (GrpI s p i g sc)) (fun _ _ iv => n - (intOf iv).toNat)
      case atStart => exact ⟨0, 0, 1, Nat.zero_le _, rfl, rfl, rfl, by omega, by omega, ⟨by simp, by simp, by simp⟩⟩
      case round =>
        obtain ⟨i, g, sc, hin, rfl, rfl, rfl, hg9, hsc9, hI⟩ := hrel
        by_cases hlt : i < n
        · have hix := index_byt T i (by omega)
          have hby := hT.2 i (by omega)
          have hdg := HD.out (p + i) (by have := HP.out; have := HTS.out; omega)
          have hp8 : 10 ^ i ≤ 10 ^ 8 := Nat.pow_le_pow_right (by omega) (by omega)
          have hgb := hI.2.1
          have hsb := hI.2.2
          have hst := grp_step hI rfl hdg.1 hdg.2
          rw [hby] at hix
          obtain ⟨x, ex⟩ : ∃ x, byt s (p + i) = x := ⟨_, rfl⟩
          rw [ex] at hix hdg hst
          have hg8 : g < 100000000 := by omega
          have hs8 : sc ≤ 100000000 := by omega
          have hx1 := hdg.1
          have hx2 := hdg.2
          have HST : Hid (GrpI s p (i + 1) (g * 10 + (x - 48)) (sc * 10)) := hst
          clear hby ex hp8 hgb hsb hst hdg
          go_wp2
          go_round
          case rel => exact ⟨i + 1, g * 10 + (x - 48), sc * 10, by omega, by go_num, by go_num, by go_num, by omega, by omega, HST⟩
          case measure => simp [intOf]; omega
        · have hie : i = n := by omega
          subst hie
          have hsb := hI.2.2
          have hsp : 1 ≤ sc := by rw [hsb]; exact Nat.pow_pos (by omega)
          have hpv := hI.1
          have hgr := grow_any _ (pv s p) sc g w wr own bel hsp (by omega) (by omega) (by omega)
          rw [show pv s p * sc + g = pv s (p + i) from by rw [hpv, hsb]] at hgr
          have hts := tail_step hT hnT
          clear hsb hpv hI
          go_wp2_with fail
          refine hgr.mono ?_
          rintro e w2 ⟨v', rfl, own2, bel2⟩
          clear hgr
          go_wp2
          go_roundg (gk - i)
          case measure => omega
          case rel => exact ⟨p + i, _, rfl, hts, by have := HTS.out; simp; omega, own2, bel2⟩

/-- What nat.Read answers. -/
def Reads (s : ByteArray) (r : List Nat × Int) : Prop :=
  (12000 < s.size → r = ([], 2)) ∧ (s.size ≤ 12000 → ¬ Pr s → r = ([], 1)) ∧ (s.size ≤ 12000 → Pr s → r = capd (pv s s.size))

set_option maxRecDepth 100000 in
theorem read_nat (s : ByteArray) (w : World) (hm : s.size ≤ 9223372036854775807) : ∃ r, Reads s r ∧ Calls Try.prog 45 #[.string s] w (Ans w r) := by
  by_cases hl : 12000 < s.size
  · refine ⟨([], 2), ⟨fun _ => rfl, fun h => absurd h (by omega), fun h => absurd h (by omega)⟩, ?_⟩
    go_enter Try.func45, Try.ntmps45
    go_wp2
    go_ret2
    exact ⟨_, rfl, own_nil _ _ _ _, Below.refl _ _⟩
  · have hp := printed_any s w (by omega)
    by_cases hPr : Pr s
    · refine ⟨capd (pv s s.size), ⟨fun h => absurd h hl, fun _ h => absurd hPr h, fun _ _ => rfl⟩, ?_⟩
      have hf := fromDecimal_any s w (by omega) hPr.2.2
      go_enter Try.func45, Try.ntmps45
      go_wp2_with fail
      refine hp.mono ?_
      rintro e w' ⟨b, rfl, hb, rfl⟩
      have hbt := hb.2 hPr
      subst hbt
      clear hb hp
      go_wp2_with fail
      refine hf.mono ?_
      rintro e w2 ⟨v, rfl, own, bel⟩
      go_wp2_with fail
      refine (short_num v _ w' w2 own bel).mono ?_
      rintro e w3 ⟨rfl, v2, rfl, h2, h3⟩
      go_wp2
      go_ret2
      exact ⟨_, rfl, h2, h3⟩
    · refine ⟨([], 1), ⟨fun h => absurd h hl, fun _ _ => rfl, fun _ h => absurd h hPr⟩, ?_⟩
      go_enter Try.func45, Try.ntmps45
      go_wp2_with fail
      refine hp.mono ?_
      rintro e w' ⟨b, rfl, hb, rfl⟩
      have hbt : b = false := by
        cases b with
        | false => rfl
        | true => exact absurd (hb.1 rfl) hPr
      subst hbt
      clear hb hp
      go_wp2
      go_ret2
      exact ⟨_, rfl, own_nil _ _ _ _, Below.refl _ _⟩
end Go.Proofs.Ytepcafhlhnlgaaa

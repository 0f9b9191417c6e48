/-
  The contract of digits.Number.Times: the digits of the product.
-/
import Derived.Test.YtepcafhlhnlgaaaLeaf
namespace Go.Proofs.Ytepcafhlhnlgaaa
open Go.RowKit

theorem Try.infoU32 : (Try.prog.info? 58).map (fun i => (i.zero, i.size, i.bytes)) = some (some (.int .u32 0), 1, 4) := by kernel_rfl

/-- What the outer loop keeps. -/
def MulO (xs ys ps : List Nat) (i : Nat) : Prop :=
  ps.length = xs.length + ys.length ∧ Dg.Small 4294967296 ps ∧ (∀ j, i + ys.length ≤ j → ps.getD j 0 = 0) ∧ Dg.vl 4294967296 ps = Dg.vl 4294967296 (xs.take i) * Dg.vl 4294967296 ys

/-- What the inner loop keeps. -/
def MulI (xs ys ps : List Nat) (i j c : Nat) : Prop :=
  ps.length = xs.length + ys.length ∧ Dg.Small 4294967296 ps ∧ c < 4294967296 ∧ (∀ j, i + ys.length ≤ j → ps.getD j 0 = 0) ∧
    Dg.vl 4294967296 ps + 4294967296 ^ (i + j) * c = Dg.vl 4294967296 (xs.take i) * Dg.vl 4294967296 ys + 4294967296 ^ i * (xs.getD i 0 * Dg.vl 4294967296 (ys.take j))

theorem mulO_start (xs ys : List Nat) : MulO xs ys (List.replicate (xs.length + ys.length) 0) 0 := by
  refine ⟨by simp, Dg.small_replicate _ _ (by omega), fun j _ => ?_, ?_⟩
  · by_cases h : j < xs.length + ys.length <;> simp [List.getD_eq_getElem?_getD, h]
  · simp [Dg.vl_replicate_zero, Dg.vl]

theorem mulI_start {xs ys ps : List Nat} {i : Nat} (h : MulO xs ys ps i) : MulI xs ys ps i 0 0 :=
  ⟨h.1, h.2.1, by omega, h.2.2.1, by rw [h.2.2.2]; simp [Dg.vl]⟩

theorem mulI_step {xs ys ps : List Nat} {i j c : Nat} (h : MulI xs ys ps i j c) (hi : i < xs.length) (hj : j < ys.length) (t : Nat) (ht : t = c + (xs.getD i 0 * ys.getD j 0 + ps.getD (i + j) 0)) (hlt : t < 18446744073709551616) :
    MulI xs ys (ps.set (i + j) (t % 4294967296)) i (j + 1) (t / 4294967296) := by
  obtain ⟨h1, h2, h3, h4, h5⟩ := h
  have hl : i + j < ps.length := by omega
  refine ⟨by simpa using h1, Dg.small_set h2 _ _ (Nat.mod_lt _ (by omega)), by omega, fun k hk => ?_, ?_⟩
  · rw [Dg.getD_set _ _ _ _ hl, if_neg (by omega)]; exact h4 k hk
  · have hs := Dg.vl_set 4294967296 ps (i + j) (t % 4294967296) hl
    rw [Dg.vl_take_succ _ _ _ hj]
    have hp : 4294967296 ^ (i + (j + 1)) * (t / 4294967296) = 4294967296 ^ (i + j) * (4294967296 * (t / 4294967296)) := by
      rw [show i + (j + 1) = (i + j) + 1 from by omega, Nat.pow_succ, Nat.mul_assoc]
    have hm : 4294967296 ^ (i + j) * t = 4294967296 ^ (i + j) * (t % 4294967296) + 4294967296 ^ (i + j) * (4294967296 * (t / 4294967296)) := by
      rw [← Nat.mul_add, Nat.mod_add_div]
    have he : 4294967296 ^ (i + j) * t = 4294967296 ^ (i + j) * c + 4294967296 ^ (i + j) * (xs.getD i 0 * ys.getD j 0) + 4294967296 ^ (i + j) * ps.getD (i + j) 0 := by
      rw [ht, Nat.mul_add, Nat.mul_add, Nat.add_assoc]
    have hd : 4294967296 ^ i * (xs.getD i 0 * (Dg.vl 4294967296 (ys.take j) + 4294967296 ^ j * ys.getD j 0)) = 4294967296 ^ i * (xs.getD i 0 * Dg.vl 4294967296 (ys.take j)) + 4294967296 ^ (i + j) * (xs.getD i 0 * ys.getD j 0) := by
      rw [Nat.mul_add, Nat.mul_add, Nat.pow_add]
      congr 1
      rw [Nat.mul_assoc, Nat.mul_left_comm (xs.getD i 0)]
    rw [hp, hd]
    omega

theorem mulO_step {xs ys ps : List Nat} {i c : Nat} (h : MulI xs ys ps i ys.length c) (hi : i < xs.length) : MulO xs ys (ps.set (i + ys.length) c) (i + 1) := by
  obtain ⟨h1, h2, h3, h4, h5⟩ := h
  have hl : i + ys.length < ps.length := by omega
  refine ⟨by simpa using h1, Dg.small_set h2 _ _ h3, fun k hk => ?_, ?_⟩
  · rw [Dg.getD_set _ _ _ _ hl, if_neg (by omega)]; exact h4 k (by omega)
  · have hs := Dg.vl_set 4294967296 ps (i + ys.length) c hl
    rw [h4 _ (Nat.le_refl _)] at hs
    rw [Dg.vl_take_succ _ _ _ hi, Nat.add_mul, Nat.mul_assoc]
    rw [List.take_of_length_le (Nat.le_refl _)] at h5
    omega

theorem mul_bound {x y : Nat} (hx : x < 4294967296) (hy : y < 4294967296) : x * y ≤ 18446744065119617025 := by
  have := Nat.mul_le_mul (Nat.le_sub_one_of_lt hx) (Nat.le_sub_one_of_lt hy)
  simpa using this

theorem cast_mod (c x y p : Nat) : ((c : Int) + ((x : Int) * (y : Int) + (p : Int))) % 4294967296 = (((c + (x * y + p)) % 4294967296 : Nat) : Int) := by
  rw [← Int.natCast_mul]; omega
theorem cast_div (c x y p : Nat) : ((c : Int) + ((x : Int) * (y : Int) + (p : Int))) / 4294967296 = (((c + (x * y + p)) / 4294967296 : Nat) : Int) := by
  rw [← Int.natCast_mul]; omega

/-- What trim leaves of the call's own row. -/
theorem own_trim {w : World} {base e : Nat} {k : IntKind} {g n cap m : Nat} {zs : List Nat} (B : Nat) (hB : 2 ≤ B) (h : Own w base e k (.slice (some ⟨g, 0, none⟩) n cap) zs) (hs : Dg.Small B zs) (ht : TrimR zs m) :
    Own w base e k (.slice (some ⟨g, 0, none⟩) m cap) (Dg.dg B (Dg.vl B zs)) := by
  rw [← Dg.trim_eq B hB zs m hs ht.1 ht.2.1 ht.2.2]
  exact h.take m ht.1

set_option maxHeartbeats 1600000 in
theorem times_any (va vb : Value) (xs ys : List Nat) (w : World) (ha : Rd w .u32 va xs) (hb : Rd w .u32 vb ys) (sa : Dg.Small 4294967296 xs) (sb : Dg.Small 4294967296 ys) (hla : xs.length ≤ 1000000) (hlb : ys.length ≤ 1000000) :
    Calls Try.prog 60 #[va, vb] w fun e w' =>
      ∃ v, e = .returned v ∧ Own w' w.heap.size 58 .u32 v (Dg.dg 4294967296 (Dg.vl 4294967296 xs * Dg.vl 4294967296 ys)) ∧ Below w.heap.size w w' := by
  obtain ⟨i0, hi, hz0, hz1, hz2⟩ := info_parts Try.infoU32
  obtain ⟨ao, ca, rfl, -, -, hca⟩ := ha
  obtain ⟨bo, cb, rfl, -, -, hcb⟩ := hb
  go_enter Try.func60, Try.ntmps60
  go_wp2_with (at_make; refine wpList_make_full _ rfl _ _ 64 rfl w.heap.size 58 i0 (.int .u32 0) 1 Try.underlying64 hi hz0 hz1 _ _ _ _ (xs.length + ys.length) rfl rfl (by omega) (by omega) ?b2 ?b3 (Nat.le_refl _) ?_)
  case b2 => rw [hz2]; omega
  case b3 => unfold maxLen; omega
  intro w0 hown0 hgrow0
  have own0 := own_made hown0
  have bel0 : Below w.heap.size w w0 := (Below.refl _ _).grown hgrow0 (Nat.le_refl _) (fun k h => by cases h)
  clear hown0 hgrow0
  go_wp2
  go_loopw [19] (fun iv wr => ∃ (i : Nat) (ps : List Nat), i ≤ xs.length ∧ iv = .int .i64 i ∧ Own wr w.heap.size 58 .u32 (.slice (some ⟨w.heap.size, 0, none⟩) (xs.length + ys.length) (xs.length + ys.length)) ps ∧ MulO xs ys ps i ∧ Below w.heap.size w wr)
    (fun iv _ => xs.length - (intOf iv).toNat)
  case atStart => exact ⟨0, _, Nat.zero_le _, rfl, own0, mulO_start xs ys, bel0⟩
  case round =>
    obtain ⟨i, ps, hil, rfl, own, hO, bel⟩ := hrel
    by_cases hlt : i < xs.length
    · obtain ⟨b, off, rfl, hcell⟩ := hca (by omega)
      have hx := cell_later bel (hcell i hlt)
      have hxs := sa i
      obtain ⟨x, ex⟩ : ∃ x, xs.getD i 0 = x := ⟨_, rfl⟩
      rw [ex] at hx hxs
      have Hx : Hid (xs.getD i 0 = x) := ex
      clear ex hcell hca own0 bel0
      go_wp2
      go_loopw [8, 26] (fun cv jv wr => ∃ (j c : Nat) (ps : List Nat), j ≤ ys.length ∧ jv = .int .i64 j ∧ cv = .int .u64 c ∧ Own wr w.heap.size 58 .u32 (.slice (some ⟨w.heap.size, 0, none⟩) (xs.length + ys.length) (xs.length + ys.length)) ps ∧ MulI xs ys ps i j c ∧ Below w.heap.size w wr)
        (fun _ jv _ => ys.length - (intOf jv).toNat)
      case atStart => exact ⟨0, 0, ps, Nat.zero_le _, rfl, rfl, own, mulI_start hO, bel⟩
      case round =>
        clear own hO bel ps hx
        obtain ⟨j, c, ps, hjl, rfl, rfl, own, hI, bel⟩ := hrel
        have hpl := hI.1
        have hcl := hI.2.2.1
        by_cases hjt : j < ys.length
        · obtain ⟨b2, off2, rfl, hcell2⟩ := hcb (by omega)
          have hy := cell_later bel (hcell2 j hjt)
          have hys := sb j
          have hp := own.cell (i + j) (by omega)
          have hps := hI.2.1 (i + j)
          have hfr := own.free (i + j)
          obtain ⟨y, ey⟩ : ∃ y, ys.getD j 0 = y := ⟨_, rfl⟩
          obtain ⟨p, ep⟩ : ∃ p, ps.getD (i + j) 0 = p := ⟨_, rfl⟩
          rw [ey] at hy hys
          rw [ep] at hp hps
          have Hy : Hid (ys.getD j 0 = y) := ey
          have Hp : Hid (ps.getD (i + j) 0 = p) := ep
          have hxy := mul_bound hxs hys
          have hxyI : (x : Int) * (y : Int) ≤ 18446744065119617025 := by rw [← Int.natCast_mul]; omega
          have hxy0 : 0 ≤ (x : Int) * (y : Int) := by rw [← Int.natCast_mul]; omega
          clear ey ep hcell2 hcb
          go_wp2
          go_roundw
          case rel =>
            rw [cast_mod, cast_div]
            exact ⟨j + 1, (c + (x * y + p)) / 4294967296, _, by omega, by go_num, rfl, own.store (i + j) _, mulI_step hI hlt hjt _ (by rw [Hx.out, Hy.out, Hp.out]) (by omega), bel.setCell (by exact Nat.le_refl _) _⟩
          case measure => simp [intOf]; omega
        · have hj : j = ys.length := by omega
          subst hj
          have hp := own.cell (i + ys.length) (by omega)
          have hfr := own.free (i + ys.length)
          go_wp2
          go_roundw
          case rel => exact ⟨i + 1, _, by omega, by go_num, own.store (i + ys.length) c, mulO_step hI hlt, bel.setCell (by exact Nat.le_refl _) _⟩
          case measure => simp [intOf]; omega
    · have hie : i = xs.length := by omega
      subst hie
      have hpl := hO.1
      have rd := own.rd
      go_wp2_with fail
      refine (trim_any _ _ _ ps _ rd).mono ?_
      rintro e w' ⟨m, rfl, hm, rfl⟩
      go_wp2
      go_ret
      refine ⟨_, rfl, ?_, bel⟩
      have := own_trim 4294967296 (by omega) own hO.2.1 hm
      rw [hO.2.2.2, List.take_of_length_le (Nat.le_refl _)] at this
      exact this
end Go.Proofs.Ytepcafhlhnlgaaa

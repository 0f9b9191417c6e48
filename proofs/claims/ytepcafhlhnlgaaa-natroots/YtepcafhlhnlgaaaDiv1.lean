/-
  Contracts of bits.Div32, Copy, divideBy.
-/
import Derived.Test.YtepcafhlhnlgaaaMul
import Derived.Test.YtepcafhlhnlgaaaWrong
import Derived.Laws.CopyOwn
namespace Go.Proofs.Ytepcafhlhnlgaaa
open Go.RowKit

theorem or_join (hi lo : Nat) (h1 : hi < 4294967296) (h2 : lo < 4294967296) : bits .or .u64 ((hi : Int) * 4294967296) (lo : Int) = ((hi * 4294967296 + lo : Nat) : Int) := by
  have e : ((hi : Int) * 4294967296) = ((hi * 4294967296 : Nat) : Int) := by omega
  rw [e, u64_or_nat _ _ (by omega) (by omega)]
  have := nat_join 32 (hi * 4294967296) lo (by omega) (by omega)
  rw [this]

theorem div_small {t y : Nat} {hi lo : Nat} (h1 : hi < y) (h2 : lo < 4294967296) (ht : t = hi * 4294967296 + lo) : t / y < 4294967296 := by
  rw [Nat.div_lt_iff_lt_mul (by omega)]
  have : (hi + 1) * 4294967296 ≤ y * 4294967296 := Nat.mul_le_mul_right _ h1
  rw [Nat.mul_comm 4294967296 y]
  omega

set_option maxHeartbeats 800000 in
theorem div32_any (hi lo y : Nat) (w : World) (h1 : hi < y) (h2 : lo < 4294967296) (h3 : y < 4294967296) :
    Calls Try.prog 86 #[.int .u32 hi, .int .u32 lo, .int .u32 y] w fun e w' => e = .returned (.tuple #[.int .u32 ((hi * 4294967296 + lo) / y : Nat), .int .u32 ((hi * 4294967296 + lo) % y : Nat)]) ∧ Below w.heap.size w w' := by
  have hor := or_join hi lo (by omega) h2
  obtain ⟨t, ht⟩ : ∃ t, hi * 4294967296 + lo = t := ⟨_, rfl⟩
  have hq1 := div_small h1 h2 ht.symm
  have htb : t < 18446744073709551616 := by omega
  rw [ht] at hor ⊢
  have hr1 : t % y < y := Nat.mod_lt _ (by omega)
  obtain ⟨q, hq⟩ : ∃ q, t / y = q := ⟨_, rfl⟩
  obtain ⟨r, hr⟩ : ∃ r, t % y = r := ⟨_, rfl⟩
  have hqI : (t : Int) / (y : Int) = (q : Int) := by rw [← hq]; exact (Int.natCast_ediv t y).symm
  have hrI : (t : Int) % (y : Int) = (r : Int) := by rw [← hr]; exact (Int.natCast_emod t y).symm
  rw [hq] at hq1 ⊢
  rw [hr] at hr1 ⊢
  clear hq hr ht
  have hd : decide (y ≤ hi) = false := by simp; omega
  have hy : ((y : Int) != 0) = true := by rw [bne_iff_ne]; omega
  go_enter Try.func86, Try.ntmps86
  go_wp2
  go_quiet (fail)
  go_wp2
  go_ret2
  exact ⟨rfl, below_drewN (Below.refl _ _) _⟩

theorem Own.heap {w : World} {base e : Nat} {k : IntKind} {g n : Nat} {zs : List Nat} (h : Own w base e k (.slice (some ⟨g, 0, none⟩) n n) zs) :
    w.heap[g]? = some (.cells (zs.map (fun n : Nat => Value.int k (n : Int))).toArray e (0, 0)) := by
  have hn := h.len
  subst hn
  rcases h.2 with ⟨hv, _⟩ | ⟨g', cap', cur, hv, hb, hh, hnc, hcm, hcs, htake⟩
  · simp at hv
  · simp only [Value.slice.injEq, Option.some.injEq, Addr.mk.injEq, and_true, true_and] at hv
    obtain ⟨rfl, rfl⟩ := hv
    rw [hh, ← htake, List.take_of_length_le (by rw [Array.length_toList, hcs]; omega)]

theorem own_of_heap {w : World} {base e : Nat} {k : IntKind} {g : Nat} {zs : List Nat} (h : w.heap[g]? = some (.cells (zs.map (fun n : Nat => Value.int k (n : Int))).toArray e (0, 0))) (hb : base ≤ g) (hm : zs.length ≤ maxLen) :
    Own w base e k (.slice (some ⟨g, 0, none⟩) zs.length zs.length) zs := by
  refine ⟨by simp, .inr ⟨g, _, _, rfl, hb, h, Nat.le_refl _, hm, by simp, ?_⟩⟩
  simp only [Nat.mul_one]
  exact List.take_of_length_le (by simp)

theorem addr_add (b off j : Nat) : (⟨b, off, none⟩ : Addr).add j = ⟨b, off + j, none⟩ := by
  simp only [Addr.add]
  split
  · rename_i h; subst h; rfl
  · rfl

theorem setRow_same (w : World) (g : Nat) (old cs : Array Value) (t : TypeId) (hg : w.heap[g]? = some (.cells old t (0, 0))) : (w.setRow g cs).heap[g]? = some (.cells cs t (0, 0)) := by
  simp [World.setRow, Array.getElem?_modify, hg]

theorem getD_map_cell (k : IntKind) (zs : List Nat) (j : Nat) (hj : j < zs.length) : (zs.map (fun n : Nat => Value.int k (n : Int)))[j]? = some (.int k ((zs.getD j 0 : Nat) : Int)) := by
  rw [List.getElem?_map, List.getElem?_eq_getElem hj]
  simp [List.getD_eq_getElem?_getD, hj]

/-- copy(dst, src), dst the call's own and at least as long. -/
theorem copy_run {P : Program} {w : World} {base e : Nat} {k : IntKind} {g n m cap : Nat} {ao : Option Addr} {ds zs : List Nat} (dT sT ty : Nat) (hu : P.underlying dT = some (.slice e)) (hsz : (P.info? e).map (·.size) = some 1)
    (ho : Own w base e k (.slice (some ⟨g, 0, none⟩) n n) ds) (hr : Rd w k (.slice ao m cap) zs) (hle : zs.length ≤ ds.length) :
    ∃ w1, (Builtin.copy_ #[dT, sT] ty #[.slice (some ⟨g, 0, none⟩) n n, .slice ao m cap]).run P w = .ok (.int .i64 (m : Int)) w1 ∧ Own w1 base e k (.slice (some ⟨g, 0, none⟩) n n) (zs ++ ds.drop zs.length) ∧ w.grownBy w1 (some g) := by
  have hn := ho.len
  have hm := rd_len hr
  subst hn hm
  have hh := ho.heap
  have hbl := ho.block
  have hml : ds.length ≤ maxLen := by
    rcases ho.2 with ⟨hv, _⟩ | ⟨g', cap', cur, hv, hb, hh, hnc, hcm, hcs, htake⟩
    · simp at hv
    · omega
  by_cases h0 : zs.length = 0
  · obtain rfl : zs = [] := List.eq_nil_of_length_eq_zero h0
    refine ⟨w, run_copy_none (P := P) w dT sT ty e _ _ _ _ _ _ hu hsz (by simp), by simpa using ho, ⟨rfl, rfl, rfl, Nat.le_refl _, fun _ _ _ => rfl⟩⟩
  · obtain ⟨-, -, hc⟩ := rd_open hr
    obtain ⟨b, off, rfl, hcell⟩ := hc (by omega)
    have hrun := run_copy_row (P := P) w dT sT ty e g 0 ds.length ds.length ⟨b, off, none⟩ zs.length cap _ e (zs.map (fun n : Nat => Value.int k (n : Int))) hu hsz hh (by rw [List.length_map]; exact (Nat.min_eq_left hle).symm)
      (by
        intro j u hj
        have hjl : j < zs.length := by have := (List.getElem?_eq_some_iff.1 hj).1; simpa using this
        rw [getD_map_cell k zs j hjl] at hj
        rw [addr_add, hcell j hjl]; exact hj)
      (by simpa using hle) (by intro u hu; simp at hu; obtain ⟨a, _, rfl⟩ := hu; rfl)
    refine ⟨w.setRow g (zs.map (fun n : Nat => Value.int k (n : Int)) ++ (ds.map (fun n : Nat => Value.int k (n : Int))).drop zs.length).toArray, by rw [hrun]; simp [goInt], ?_, ⟨rfl, rfl, rfl, by simp [World.setRow], fun j _ hj => setRow_other w g j _ (fun e => hj (by rw [e]))⟩⟩
    have hlen : (zs ++ ds.drop zs.length).length = ds.length := by simp; omega
    have := own_of_heap (w := w.setRow g (zs.map (fun n : Nat => Value.int k (n : Int)) ++ (ds.map (fun n : Nat => Value.int k (n : Int))).drop zs.length).toArray) (base := base) (e := e) (k := k) (g := g) (zs := zs ++ ds.drop zs.length)
      (by rw [setRow_same w g _ _ e hh]; simp [List.map_drop]) hbl.1 (by omega)
    rw [hlen] at this
    simpa using this

set_option maxHeartbeats 800000 in
theorem copy_any (v : Value) (zs : List Nat) (w : World) (h : Rd w .u32 v zs) (hl : zs.length ≤ 1000000) :
    Calls Try.prog 76 #[v] w fun e w' => e = .returned (.slice (some ⟨w.heap.size, 0, none⟩) zs.length zs.length) ∧ Own w' w.heap.size 58 .u32 (.slice (some ⟨w.heap.size, 0, none⟩) zs.length zs.length) zs ∧ Below w.heap.size w w' := by
  obtain ⟨i0, hi, hz0, hz1, hz2⟩ := info_parts Try.infoU32
  have hsz : (Try.prog.info? 58).map (·.size) = some 1 := by rw [hi]; simp [hz1]
  obtain ⟨ao, ca, rfl⟩ := h.shape
  go_enter Try.func76, Try.ntmps76
  go_wp2_with (at_make; refine wpList_make_full _ rfl _ _ 64 rfl w.heap.size 58 i0 (.int .u32 0) 1 Try.underlying64 hi hz0 hz1 _ _ _ _ zs.length rfl rfl (by omega) (by omega) ?b2 ?b3 (Nat.le_refl _) ?_)
  case b2 => rw [hz2]; omega
  case b3 => unfold maxLen; omega
  intro w0 hown0 hgrow0
  have own0 := own_made hown0
  have bel0 : Below w.heap.size w w0 := (Below.refl _ _).grown hgrow0 (Nat.le_refl _) (fun k h => by cases h)
  obtain ⟨w1, hrun, own1, gr1⟩ := copy_run 64 64 3 Try.underlying64 hsz own0 (h.later bel0) (by simp)
  have bel1 := bel0.grown gr1 bel0.size (fun k hk => by cases hk; exact Nat.le_refl _)
  clear hown0 hgrow0 hsz
  go_wp2
  go_ret
  refine ⟨rfl, ?_, bel1⟩
  have e : zs ++ (List.replicate zs.length 0).drop zs.length = zs := by simp
  rw [e] at own1
  exact own1
end Go.Proofs.Ytepcafhlhnlgaaa

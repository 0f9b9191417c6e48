/-
  Contract of grow: the row becomes scale times what it was, and more.
-/
import Derived.Test.YtepcafhlhnlgaaaNc
namespace Go.Proofs.Ytepcafhlhnlgaaa
open Go.RowKit

def GrowI (zs cur : List Nat) (sc mo k c : Nat) : Prop :=
  cur.length = zs.length ∧ Dg.Small 4294967296 cur ∧ c < 4294967296 ∧ (∀ j, k ≤ j → cur.getD j 0 = zs.getD j 0) ∧ Dg.vl 4294967296 (cur.take k) + 4294967296 ^ k * c = Dg.vl 4294967296 (zs.take k) * sc + mo

theorem grow_step {zs cur : List Nat} {sc mo k c x : Nat} (h : GrowI zs cur sc mo k c) (hk : k < zs.length) (hx : zs.getD k 0 = x) (hxl : x < 4294967296) (hsc : sc < 4294967296) :
    GrowI zs (cur.set k ((c + x * sc) % 4294967296)) sc mo (k + 1) ((c + x * sc) / 4294967296) := by
  obtain ⟨h1, h2, h3, h4, h5⟩ := h
  have hb := mul_bound hxl hsc
  refine ⟨by simpa using h1, Dg.small_set h2 _ _ (Nat.mod_lt _ (by omega)), by omega, fun j hj => ?_, ?_⟩
  · rw [Dg.getD_set _ _ _ _ (by omega), if_neg (by omega)]; exact h4 j (by omega)
  · rw [vl_take_set _ _ _ (by omega), Dg.vl_take_succ _ _ _ hk, hx, Nat.add_mul]
    generalize ht : c + x * sc = t
    have e : 4294967296 ^ (k + 1) * (t / 4294967296) = 4294967296 ^ k * (4294967296 * (t / 4294967296)) := by rw [Nat.pow_succ, Nat.mul_assoc]
    have e2 : 4294967296 ^ k * t = 4294967296 ^ k * (t % 4294967296) + 4294967296 ^ k * (4294967296 * (t / 4294967296)) := by rw [← Nat.mul_add, Nat.mod_add_div]
    have e3 : 4294967296 ^ k * t = 4294967296 ^ k * c + 4294967296 ^ k * x * sc := by rw [← ht, Nat.mul_add, Nat.mul_assoc]
    rw [e]
    omega

theorem grow_end {zs cur : List Nat} {sc mo c m : Nat} (h : GrowI zs cur sc mo zs.length c) (hz : zs = Dg.dg 4294967296 m) (hsc : 1 ≤ sc) (hc : c = 0 ∨ 0 < c) :
    (if c = 0 then cur else cur ++ [c]) = Dg.dg 4294967296 (m * sc + mo) := by
  obtain ⟨h1, h2, h3, h4, h5⟩ := h
  rw [List.take_of_length_le (by omega), List.take_of_length_le (Nat.le_refl _)] at h5
  have hm : Dg.vl 4294967296 zs = m := by rw [hz, Dg.vl_dg _ _ (by omega)]
  rw [hm] at h5
  by_cases e : c = 0
  · subst e
    rw [if_pos rfl]
    refine Dg.eq_dg 4294967296 (by omega) _ _ h2 (Dg.norm_of_ge 4294967296 cur h2 (fun hne => ?_)) (by omega)
    have hzne : zs ≠ [] := by intro e; rw [e] at h1; exact hne (List.eq_nil_of_length_eq_zero h1)
    have := Dg.vl_ge 4294967296 zs hzne (by rw [hz]; exact Dg.norm_dg _ _ (by omega))
    rw [h1]
    have h6 : m ≤ m * sc := Nat.le_mul_of_pos_right _ (by omega)
    omega
  · rw [if_neg e]
    refine Dg.eq_dg 4294967296 (by omega) _ _ (small_snoc h2 h3) (fun _ => ?_) ?_
    · simp [List.getD_eq_getElem?_getD]; exact e
    · rw [Dg.vl_append, h1]
      simp only [Dg.vl, Nat.mul_zero, Nat.add_zero]
      omega

/-- A row of the call's own, grown by one. -/
theorem own_grow1 {w0 wr w3 : World} {e x : Nat} {k : IntKind} {es : List Nat} {lv v' : Value} (bel : Below w0.heap.size w0 wr) (ownL : Own wr w0.heap.size e k lv es)
    (hown' : w3.ownsRow w0.heap.size e 1 v' (es.length + 1) ((es.map (fun n : Nat => Value.int k (n : Int))) ++ [.int k (x : Int)]))
    (hgrow : (wr.alloc (.cells #[.int k (x : Int)] e)).grownBy w3 lv.ownBlock) :
    Own w3 w0.heap.size e k v' (es ++ [x]) ∧ Below w0.heap.size w0 w3 := own_append1 bel ownL hown' hgrow

theorem cast_g1 (c x s : Nat) : ((c : Int) + (x : Int) * (s : Int)) % 4294967296 = (((c + x * s) % 4294967296 : Nat) : Int) := by rw [← Int.natCast_mul]; omega
theorem cast_g2 (c x s : Nat) : ((c : Int) + (x : Int) * (s : Int)) / 4294967296 = (((c + x * s) / 4294967296 : Nat) : Int) := by rw [← Int.natCast_mul]; omega

set_option maxRecDepth 100000 in
set_option maxHeartbeats 3200000 in
theorem grow_any (va : Value) (m sc mo : Nat) (w0 w : World) (ho : Own w w0.heap.size 58 .u32 va (Dg.dg 4294967296 m)) (hb : Below w0.heap.size w0 w) (hsc : 1 ≤ sc) (hsc2 : sc < 4294967296) (hmo : mo < 4294967296) (hl : (Dg.dg 4294967296 m).length ≤ 1000000) :
    Calls Try.prog 83 #[va, .int .u32 sc, .int .u32 mo] w fun e w' => ∃ v', e = .returned v' ∧ Own w' w0.heap.size 58 .u32 v' (Dg.dg 4294967296 (m * sc + mo)) ∧ Below w0.heap.size w0 w' := by
  obtain ⟨i0, hi, hz0, hz1, hz2⟩ := info_parts Try.infoU32
  obtain ⟨zs, hzs⟩ : ∃ zs, Dg.dg 4294967296 m = zs := ⟨_, rfl⟩
  have hsm : Dg.Small 4294967296 zs := by rw [← hzs]; exact Dg.small_dg _ _ (by omega)
  rw [hzs] at ho hl
  have HZ : Hid (zs = Dg.dg 4294967296 m) := hzs.symm
  have hen := fun cur c (h : GrowI zs cur sc mo zs.length c) => grow_end h hzs.symm hsc (by omega)
  have HEN : Hid (∀ cur c, GrowI zs cur sc mo zs.length c → (if c = 0 then cur else cur ++ [c]) = Dg.dg 4294967296 (m * sc + mo)) := hen
  clear hzs hen
  obtain ⟨ao, ca, rfl⟩ := ho.rd.shape
  go_enter Try.func83, Try.ntmps83
  go_wp2
  go_loopw [7, 14] (fun cv kv wr => ∃ (k c : Nat) (cur : List Nat), k ≤ zs.length ∧ kv = .int .i64 k ∧ cv = .int .u64 c ∧ Own wr w0.heap.size 58 .u32 (.slice ao zs.length ca) cur ∧ GrowI zs cur sc mo k c ∧ Below w0.heap.size w0 wr) (fun _ kv _ => zs.length - (intOf kv).toNat)
  case atStart => exact ⟨0, mo, zs, Nat.zero_le _, rfl, rfl, ho, ⟨rfl, hsm, hmo, fun _ _ => rfl, by simp [Dg.vl]⟩, hb⟩
  case round =>
    clear ho hb
    obtain ⟨k, c, cur, hk, rfl, rfl, own, hI, bel⟩ := hrel
    have hcl := hI.1
    have hc32 := hI.2.2.1
    by_cases hlt : k < zs.length
    · obtain ⟨g, cap, hv, hg1, hg2⟩ := own.shapeOf (by intro e; rw [e] at hcl; simp at hcl; omega)
      simp only [Value.slice.injEq] at hv
      obtain ⟨rfl, -, rfl⟩ := hv
      have hx := own.cell k (by omega)
      have hf := own.free k
      rw [hI.2.2.2.1 k (Nat.le_refl _)] at hx
      have hxl := hsm k
      obtain ⟨x, ex⟩ : ∃ x, zs.getD k 0 = x := ⟨_, rfl⟩
      rw [ex] at hx hxl
      have hst := grow_step hI hlt ex hxl hsc2
      have hxy := mul_bound hxl hsc2
      have hxyI : (x : Int) * (sc : Int) ≤ 18446744065119617025 := by rw [← Int.natCast_mul]; omega
      have hxy0 : 0 ≤ (x : Int) * (sc : Int) := by rw [← Int.natCast_mul]; omega
      clear ex hcl
      go_wp2
      go_roundw
      case rel =>
        rw [cast_g1, cast_g2]
        exact ⟨k + 1, _, _, by omega, by go_num, rfl, own.store k _, hst, bel.setCell hg1 _⟩
      case measure => simp [intOf]; omega
    · have hke : k = zs.length := by omega
      subst hke
      have hen := HEN.out cur c hI
      have hcur : cur.length ≤ 1000000 := by omega
      have hbs := bel.size
      by_cases hc0 : c = 0
      · subst hc0
        rw [if_pos rfl] at hen
        have own2 := own
        rw [hen] at own2
        clear hen hcl
        go_wp2
        go_ret
        exact ⟨_, rfl, own2, bel⟩
      · rw [if_neg hc0] at hen
        have HE : Hid (cur ++ [c] = Dg.dg 4294967296 (m * sc + mo)) := hen
        have hcp : (0 : Int) < (c : Int) := by omega
        clear hen hcl
        go_wp2_with (at_builtin; refine wpList_append_own _ rfl _ _ 64 rfl w0.heap.size 58 i0 (.int .u32 0) 1 4 Try.underlying64 hi hz0 hz1 hz2 rfl (by decide) _ _ _ rfl (World.ownsRow.alloc own _) ⟨wr.heap.size, 0, none⟩ 1 1 [.int .u32 (c : Int)] rfl rfl ?c1 ?c2 ?c3 ?c4 ?c5 ?_)
        case c1 => exact cell_one_new _ _ _
        case c2 => intro u hu; simp at hu; subst hu; rfl
        case c3 => unfold maxLen; omega
        case c4 => omega
        case c5 => simp; omega
        intro v' w3 hown' hgrow _
        have R := own_grow1 bel own hown' hgrow
        clear hown' hgrow own
        rw [HE.out] at R
        go_wp2
        go_ret
        exact ⟨_, rfl, R.1, R.2⟩
end Go.Proofs.Ytepcafhlhnlgaaa

/-
  Contracts of takeTimes and putBack over a part of the call's own row.
-/
import Derived.Test.YtfajoaopfedokaaDoorKnuth
import Derived.Test.YtfajoaopfedokaaDoorRead2
namespace Go.Proofs.YtfajoaopfedokaaDoor
open Go.RowKit

def TakeI (R cur ys : List Nat) (i t k c b : Nat) : Prop :=
  cur.length = R.length ∧ Dg.Small 4294967296 cur ∧ c < 4294967296 ∧ b ≤ 1 ∧ (∀ j, i + k ≤ j → cur.getD j 0 = R.getD j 0) ∧ Dg.vl 4294967296 cur + 4294967296 ^ i * (Dg.vl 4294967296 (ys.take k) * t) = Dg.vl 4294967296 R + 4294967296 ^ (i + k) * (b + c)

theorem take_step {R cur ys : List Nat} {i t k c b y p ct : Nat} (h : TakeI R cur ys i t k c b) (_hk : k < ys.length) (hl : i + k < R.length) (hy : ys.getD k 0 = y) (hp : R.getD (i + k) 0 = p) (hpl : p < 4294967296) (hct : ct = c + y * t) (hcl : ct / 4294967296 < 4294967296) :
    TakeI R (cur.set (i + k) ((p + 4294967296 - ct % 4294967296 - b) % 4294967296)) ys i t (k + 1) (ct / 4294967296) (brw p (ct % 4294967296) b) := by
  obtain ⟨h1, h2, h3, h4, h5, h6⟩ := h
  refine ⟨by simpa using h1, Dg.small_set h2 _ _ (Nat.mod_lt _ (by omega)), hcl, brw_le _ _ _, fun j hj => ?_, ?_⟩
  · rw [Dg.getD_set _ _ _ _ (by omega), if_neg (by omega)]; exact h5 j (by omega)
  · have hs := Dg.vl_set 4294967296 cur (i + k) ((p + 4294967296 - ct % 4294967296 - b) % 4294967296) (by omega)
    rw [h5 _ (Nat.le_refl _), hp] at hs
    have hlo : ct % 4294967296 < 4294967296 := Nat.mod_lt _ (by omega)
    have eb : p + 4294967296 * brw p (ct % 4294967296) b = (p + 4294967296 - ct % 4294967296 - b) % 4294967296 + ct % 4294967296 + b := by unfold brw; split <;> omega
    generalize hnew : (p + 4294967296 - ct % 4294967296 - b) % 4294967296 = new at *
    generalize brw p (ct % 4294967296) b = b' at *
    rw [vl_take_any, hy]
    have e1 : 4294967296 ^ i * ((Dg.vl 4294967296 (ys.take k) + 4294967296 ^ k * y) * t) = 4294967296 ^ i * (Dg.vl 4294967296 (ys.take k) * t) + 4294967296 ^ (i + k) * (y * t) := by
      rw [Nat.add_mul, Nat.mul_add, Nat.pow_add, Nat.mul_assoc, Nat.mul_assoc]
    have e2 : 4294967296 ^ (i + (k + 1)) * (b' + ct / 4294967296) = 4294967296 ^ (i + k) * (4294967296 * b' + 4294967296 * (ct / 4294967296)) := by
      rw [show i + (k + 1) = i + k + 1 from by omega, Nat.pow_succ, Nat.mul_assoc, Nat.mul_add]
    have e3 := Nat.mod_add_div ct 4294967296
    have e4 : 4294967296 ^ (i + k) * (4294967296 * b' + 4294967296 * (ct / 4294967296) + p) = 4294967296 ^ (i + k) * (new + b + c + y * t) := by congr 1; omega
    rw [Nat.mul_add, Nat.mul_add, Nat.mul_add, Nat.mul_add, Nat.mul_add] at e4
    rw [Nat.mul_add] at h6
    rw [e1, e2, Nat.mul_add]
    omega

theorem take_last {R cur ys : List Nat} {i t c b p : Nat} (h : TakeI R cur ys i t ys.length c b) (hl : i + ys.length < R.length) (hp : R.getD (i + ys.length) 0 = p) (hpl : p < 4294967296) :
    (cur.set (i + ys.length) ((p + 4294967296 - c - b) % 4294967296)).length = R.length ∧ Dg.Small 4294967296 (cur.set (i + ys.length) ((p + 4294967296 - c - b) % 4294967296)) ∧ (∀ j, i + ys.length < j → (cur.set (i + ys.length) ((p + 4294967296 - c - b) % 4294967296)).getD j 0 = R.getD j 0) ∧
      Dg.vl 4294967296 (cur.set (i + ys.length) ((p + 4294967296 - c - b) % 4294967296)) + 4294967296 ^ i * (Dg.vl 4294967296 ys * t) = Dg.vl 4294967296 R + 4294967296 ^ (i + ys.length + 1) * brw p c b := by
  obtain ⟨h1, h2, h3, h4, h5, h6⟩ := h
  refine ⟨by simpa using h1, Dg.small_set h2 _ _ (Nat.mod_lt _ (by omega)), fun j hj => ?_, ?_⟩
  · rw [Dg.getD_set _ _ _ _ (by omega), if_neg (by omega)]; exact h5 j (by omega)
  · have hs := Dg.vl_set 4294967296 cur (i + ys.length) ((p + 4294967296 - c - b) % 4294967296) (by omega)
    rw [h5 _ (Nat.le_refl _), hp] at hs
    have eb : p + 4294967296 * brw p c b = (p + 4294967296 - c - b) % 4294967296 + c + b := by unfold brw; split <;> omega
    generalize (p + 4294967296 - c - b) % 4294967296 = new at *
    generalize brw p c b = b' at *
    rw [List.take_of_length_le (Nat.le_refl _)] at h6
    have e2 : 4294967296 ^ (i + ys.length + 1) * b' = 4294967296 ^ (i + ys.length) * (4294967296 * b') := by rw [Nat.pow_succ, Nat.mul_assoc]
    have e4 : 4294967296 ^ (i + ys.length) * (p + 4294967296 * b') = 4294967296 ^ (i + ys.length) * (new + c + b) := by rw [eb]
    rw [Nat.mul_add, Nat.mul_add, Nat.mul_add] at e4
    rw [Nat.mul_add] at h6
    rw [e2]
    omega

/-- What taking so many times does to the row. -/
def Took (R cur ys : List Nat) (i t b : Nat) : Prop :=
  cur.length = R.length ∧ Dg.Small 4294967296 cur ∧ (∀ j, i + ys.length < j → cur.getD j 0 = R.getD j 0) ∧ b ≤ 1 ∧ Dg.vl 4294967296 cur + 4294967296 ^ i * (Dg.vl 4294967296 ys * t) = Dg.vl 4294967296 R + 4294967296 ^ (i + ys.length + 1) * b

set_option maxRecDepth 100000 in
set_option maxHeartbeats 3200000 in
theorem takeTimes_any (g N i pc base t : Nat) (R ys : List Nat) (vb : Value) (w : World) (ho : Own w base 93 .u32 (.slice (some ⟨g, 0, none⟩) N N) R) (sR : Dg.Small 4294967296 R) (sb : Dg.Small 4294967296 ys)
    (hby : ∀ w', w.grownBy w' (some g) → Rd w' .u32 vb ys) (hl : i + ys.length < R.length) (ht : t < 4294967296) (hRl : R.length ≤ 2000000) :
    Calls Tryd.prog 167 #[.slice (some ⟨g, i, none⟩) (ys.length + 1) pc, vb, .int .u32 t] w fun e w' =>
      ∃ (b : Nat) (cur : List Nat), e = .returned (.bool (decide (b = 1))) ∧ Took R cur ys i t b ∧ Own w' base 93 .u32 (.slice (some ⟨g, 0, none⟩) N N) cur ∧ w.grownBy w' (some g) := by
  obtain ⟨bo, cb, rfl⟩ := (hby w (grown_refl _ _)).shape
  have HBY : Hid (∀ w', w.grownBy w' (some g) → Rd w' .u32 (.slice bo ys.length cb) ys) := hby
  clear hby
  go_enter Tryd.func167, Tryd.ntmps167
  go_wp2
  go_loopw [7, 8, 14] (fun cv bv kv wr => ∃ (k c b : Nat) (cur : List Nat), k ≤ ys.length ∧ kv = .int .i64 k ∧ cv = .int .u64 c ∧ bv = .int .u32 b ∧ Own wr base 93 .u32 (.slice (some ⟨g, 0, none⟩) N N) cur ∧ TakeI R cur ys i t k c b ∧ w.grownBy wr (some g)) (fun _ _ kv _ => ys.length - (intOf kv).toNat)
  case atStart => exact ⟨0, 0, 0, R, Nat.zero_le _, rfl, rfl, rfl, ho, ⟨rfl, sR, by omega, by omega, fun _ _ => rfl, by simp [Dg.vl]⟩, grown_refl _ _⟩
  case round =>
    clear ho
    obtain ⟨k, c, b, cur, hk, rfl, rfl, rfl, own, hI, gr⟩ := hrel
    have hcl := hI.1
    have hc32 := hI.2.2.1
    have hb1 := hI.2.2.2.1
    by_cases hlt : k < ys.length
    · obtain ⟨-, -, hcb⟩ := rd_open (HBY.out wr gr)
      obtain ⟨b2, off2, rfl, hcell2⟩ := hcb (by omega)
      have hy := hcell2 k hlt
      have hyl := sb k
      have hp := own.cell (i + k) (by omega)
      have hf := own.free (i + k)
      rw [hI.2.2.2.2.1 _ (Nat.le_refl _)] at hp
      have hpl := sR (i + k)
      obtain ⟨y, ey⟩ : ∃ y, ys.getD k 0 = y := ⟨_, rfl⟩
      obtain ⟨p, ep⟩ : ∃ p, R.getD (i + k) 0 = p := ⟨_, rfl⟩
      rw [ey] at hy hyl
      rw [ep] at hp hpl
      have hxy := mul_bound hyl ht
      have hxyI : (y : Int) * (t : Int) ≤ 18446744065119617025 := by rw [← Int.natCast_mul]; omega
      have hxy0 : 0 ≤ (y : Int) * (t : Int) := by rw [← Int.natCast_mul]; omega
      have hst := take_step hI hlt (by omega) ey ep hpl rfl (by omega)
      have hlo : (c + y * t) % 4294967296 < 4294967296 := Nat.mod_lt _ (by omega)
      have hs32 := sub32_any p ((c + y * t) % 4294967296) b wr hpl hlo hb1
      rw [← cast_g1] at hs32
      have HST : Hid (TakeI R (cur.set (i + k) ((p + 4294967296 - (c + y * t) % 4294967296 - b) % 4294967296)) ys i t (k + 1) ((c + y * t) / 4294967296) (brw p ((c + y * t) % 4294967296) b)) := hst
      obtain ⟨nw, hnw⟩ : ∃ nw, (p + 4294967296 - (c + y * t) % 4294967296 - b) % 4294967296 = nw := ⟨_, rfl⟩
      obtain ⟨nb, hnb⟩ : ∃ nb, brw p ((c + y * t) % 4294967296) b = nb := ⟨_, rfl⟩
      rw [hnw, hnb] at hs32 HST
      clear ey ep hcell2 hcb hst hlo hcl hnw hnb
      go_wp2_with fail
      refine hs32.mono ?_
      rintro e w' ⟨rfl, rfl⟩
      clear hs32
      go_wp2
      go_roundw
      case rel =>
        rw [cast_g2]
        exact ⟨k + 1, _, nb, _, by omega, by go_num, rfl, rfl, own.store (i + k) _, HST.out, grown_trans gr (grown_set _ _ _ _)⟩
      case measure => simp [intOf]; omega
    · have hke : k = ys.length := by omega
      subst hke
      have hp := own.cell (i + ys.length) (by omega)
      have hf := own.free (i + ys.length)
      rw [hI.2.2.2.2.1 _ (Nat.le_refl _)] at hp
      have hpl := sR (i + ys.length)
      obtain ⟨p, ep⟩ : ∃ p, R.getD (i + ys.length) 0 = p := ⟨_, rfl⟩
      rw [ep] at hp hpl
      have hst := take_last hI hl ep hpl
      have hs32 := sub32_any p c b wr hpl hc32 hb1
      have hbl := brw_le p c b
      obtain ⟨nw, hnw⟩ : ∃ nw, (p + 4294967296 - c - b) % 4294967296 = nw := ⟨_, rfl⟩
      obtain ⟨nb, hnb⟩ : ∃ nb, brw p c b = nb := ⟨_, rfl⟩
      rw [hnw, hnb] at hs32 hst
      rw [hnb] at hbl
      have HST : Hid (Took R (cur.set (i + ys.length) nw) ys i t nb) := ⟨hst.1, hst.2.1, hst.2.2.1, hbl, hst.2.2.2⟩
      have own2 := own.store (i + ys.length) nw
      have gr2 := grown_trans gr (grown_set wr g (i + ys.length) (.int .u32 (nw : Int)))
      clear ep hst hcl hnw hnb
      go_wp2_with fail
      refine hs32.mono ?_
      rintro e w' ⟨rfl, rfl⟩
      clear hs32
      by_cases hz : nb = 0
      · subst hz
        go_wp2
        go_ret
        exact ⟨0, _, rfl, HST, own2, gr2⟩
      · have hz1 : nb = 1 := by omega
        subst hz1
        go_wp2
        go_ret
        exact ⟨1, _, rfl, HST, own2, gr2⟩
end Go.Proofs.YtfajoaopfedokaaDoor

/-
  Arithmetic, paid: Add, Mul, Fused.
-/
import Derived.Test.YtnhackdjplppjaaGreatDoorPa2
import Derived.Test.YtnhackdjplppjaaGreatDoorPa3
namespace Go.Proofs.YtnhackdjplppjaaGreatDoor
open Go.RowKit
theorem pow_le_of {a b x : Nat} (h : x < 2 ^ a) (hab : a ≤ b) : x < 2 ^ b := Nat.lt_of_lt_of_le h (Nat.pow_le_pow_right (by omega) hab)
theorem plus_near {a b : Trip} {A B : Nat} {H : Int} (ha : a.n < 2 ^ A) (hb : b.n < 2 ^ B) (h1 : a.e + A ≤ H) (h2 : b.e + B ≤ H) : (plusT a b).e = min a.e b.e ∧ (plusT a b).e + (bitLen (plusT a b).n : Int) ≤ H + 1 := by
 obtain ⟨e, he⟩ : ∃ e, min a.e b.e = e := ⟨_, rfl⟩
 have x1 : a.n * 2 ^ (a.e - e).toNat < 2 ^ (H - e).toNat := by
  refine pow_le_of (a := A + (a.e - e).toNat) ?_ (by omega)
  rw [Nat.pow_add]
  exact Nat.mul_lt_mul_of_pos_right ha (two_pos _)
 have y1 : b.n * 2 ^ (b.e - e).toNat < 2 ^ (H - e).toNat := by
  refine pow_le_of (a := B + (b.e - e).toNat) ?_ (by omega)
  rw [Nat.pow_add]
  exact Nat.mul_lt_mul_of_pos_right hb (two_pos _)
 have key : (plusT a b).e = e ∧ (plusT a b).n < 2 ^ ((H - e).toNat + 1) := by
  unfold plusT
  simp only
  rw [he, Nat.pow_succ]
  split
  ·exact ⟨rfl, by show _ + _ < _; omega⟩
  ·split
   ·exact ⟨rfl, by show _ - _ < _; omega⟩
   ·exact ⟨rfl, by show _ - _ < _; omega⟩
 have := bitLen_le_of _ _ key.2
 refine ⟨key.1.trans he.symm, ?_⟩
 rw [key.1]
 omega
theorem num_near {t : Trip} {sg : Bool} (hn : Near t) (h : (numV t sg).1 = 2) : (numV t sg).2.2.1.n ≠ 0 ∧ Near (numV t sg).2.2.1 := by
 have h0 : t.n ≠ 0 := fun c => by
  have : numC t = 2 := h
  unfold numC at this
  rw [if_pos c] at this
  omega
 have e : (numV t sg).2.2.1 = t := if_neg h0
 rw [e]
 exact ⟨h0, hn⟩
theorem no_near {k : Nat} {fl : Int} (h : (noV k fl).1 = 2) : False := by
 have : notC (famC (k : Int)) = 2 := h
 unfold notC at this
 split at this
 ·omega
 ·split at this <;> omega
theorem sum_near {k : Nat} {wy cx cy : Int} {gx gy : Bool} {x y : Trip} (hn : Near (plusT x y)) (h : (sumV k wy cx gx x cy gy y).1 = 2) : (sumV k wy cx gx x cy gy y).2.2.1.n ≠ 0 ∧ Near (sumV k wy cx gx x cy gy y).2.2.1 := by
 unfold sumV at h ⊢
 by_cases c1 : cx = 3 ∧ cy = 3 ∧ gx ≠ gy
 ·rw [if_pos c1] at h
  exact (no_near h).elim
 rw [if_neg c1] at h ⊢
 by_cases c2 : cx = 3
 ·rw [if_pos c2] at h
  simp at h
 rw [if_neg c2] at h ⊢
 by_cases c3 : cy = 3
 ·rw [if_pos c3] at h
  simp at h
 rw [if_neg c3] at h ⊢
 exact num_near hn h
theorem prod_near {k : Nat} {cx cy : Int} {gx gy : Bool} {x y : Trip} (hn : Near (timesT x y)) (h : (prodV k cx gx x cy gy y).1 = 2) : (prodV k cx gx x cy gy y).2.2.1.n ≠ 0 ∧ Near (prodV k cx gx x cy gy y).2.2.1 := by
 unfold prodV at h ⊢
 by_cases c1 : cx = 3 ∧ cy = 1 ∨ cx = 1 ∧ cy = 3
 ·rw [if_pos c1] at h
  exact (no_near h).elim
 rw [if_neg c1] at h ⊢
 by_cases c2 : cx = 3 ∨ cy = 3
 ·rw [if_pos c2] at h
  simp at h
 rw [if_neg c2] at h ⊢
 exact num_near hn h
theorem small_mid {t : Trip} (h : Small64 t) : Mid t := ⟨two_len h.1 (by omega), by have := h.2; omega, by have := h.2; omega⟩
theorem small_near {x y : Trip} (hx : Small64 x) (hy : Small64 y) : Near (plusT x y) ∧ Near (timesT x y) ∧ (timesT x y).n < 2 ^ 128 ∧ -33000 ≤ (timesT x y).e ∧ (timesT x y).e ≤ 33000 := by
 obtain ⟨x1, x2, x3⟩ := hx
 obtain ⟨y1, y2, y3⟩ := hy
 have hp := plus_near (H := 16564) x1 y1 (by omega) (by omega)
 have ht : (timesT x y).n < 2 ^ 128 := by
  show x.n * y.n < _
  rw [show (128 : Nat) = 64 + 64 from rfl, Nat.pow_add]
  exact Nat.mul_lt_mul'' x1 y1
 have hb := bitLen_le_of _ _ ht
 have he : (timesT x y).e = x.e + y.e := rfl
 refine ⟨⟨by omega, by omega⟩, ⟨by omega, by omega⟩, ht, by omega, by omega⟩
def recT (n way : Int) (ps : List ByteArray) (f : Int × Bool × Trip × Int) : ByteArray × Int × Int :=
 if famC n = 0 then (⟨#[]⟩, 0, 6) else if errL n ps ≠ 0 then (⟨#[]⟩, 0, errL n ps) else if way < 1 ∨ 5 < way then (⟨#[]⟩, 0, 6)
 else if ps.any (noNum n) = true then ansT n.toNat way (notC (famC n)) false ⟨false, 0, 0⟩ (if famC n = 1 then 0 else 16) else ansT n.toNat way f.1 f.2.1 f.2.2.1 f.2.2.2
theorem reckon_any (n way : Int) (ps : List ByteArray) (f : Int × Bool × Trip × Int) (F pb : Nat) (w : World) (hm3 : ps.length ≤ 3) (hm0 : 1 ≤ ps.length) (hp : LocE w pb 9 (ps.map Value.string)) (hfn : ∀ args W, (callFunc F args).run Tryz.prog W = .ok (.enter F args) W) (hT : Tab w)
  (HF : ∀ k : Nat, 1 ≤ k ∧ k ≤ 8 → n = (k : Int) → errL n ps = 0 → ps.any (noNum n) = false → (f.1 = 2 → f.2.2.1.n ≠ 0 ∧ Near f.2.2.1) ∧ ∀ g cap w1, Below w.heap.size w w1 → OpsV w1 n ps g cap → Calls Tryz.prog F #[dsk k way, .slice (some ⟨g, 0, none⟩) ps.length cap] w1 (resV w1 f)) :
  Calls Tryz.prog 53 #[.int .i64 n, .int .i64 way, .func (.func F) #[] #[], .slice (some ⟨pb, 0, none⟩) ps.length ps.length] w (ans3 (recT n way ps f) w) := by
 unfold recT
 by_cases hf : famC n = 0
 ·rw [if_pos hf]
  exact reckon_err n way 6 F ps.length pb w (by decide) (fun w1 => deskOf_err n 6 (by decide) w1 (fun w3 => cgrid_none n w3 hf))
 rw [if_neg hf]
 obtain ⟨k1, k2, k3⟩ := famC_in hf
 obtain ⟨k, rfl⟩ : ∃ k : Nat, n = (k : Int) := ⟨n.toNat, k3.symm⟩
 rw [Int.toNat_natCast] at k1 k2
 have hk : 1 ≤ k ∧ k ≤ 8 := ⟨k1, k2⟩
 have HD := fun w1 => deskOf_any k hk w1
 have HO := fun w1 (b : Below w.heap.size w w1) => operands_W (k : Int) 0 (famC (k : Int)) (rdN k : Int) (dgN k : Int) (lsI k) (gsI k) (decide (k ≤ 3)) ps pb w1 (hp.later b) hm3 (fun p w3 b3 => wread_any (k : Int) p w3 ((hT.later b).later b3))
 by_cases he : errL (k : Int) ps = 0
 ·rw [if_neg (fun c => c he)]
  have HO2 : ∀ w1, Below w.heap.size w w1 → Calls Tryz.prog 81 #[dsk k 0, .slice (some ⟨pb, 0, none⟩) ps.length ps.length] w1 fun z w' => ∃ g cap, z = .returned (.tuple #[.slice (some ⟨g, 0, none⟩) ps.length cap, .int .i64 0]) ∧ OpsV w' (k : Int) ps g cap ∧ w1.heap.size ≤ g ∧ Below w1.heap.size w1 w' := fun w1 b => by
   refine (HO w1 b).mono (fun z w' hz => ?_)
   obtain ⟨-, v, cs, rfl, hown, hat, b2⟩ := hz.resolve_right (fun h => h.1 he)
   obtain ⟨g, cap, hv, hV⟩ := opsV_of (fun h => by subst h; simp at hm0) hown hat
   subst hv
   exact ⟨g, cap, rfl, hV, (World.ownsRow.lt hown g rfl).1, b2⟩
  by_cases hw1 : way < 1
  ·rw [if_pos (.inl hw1)]
   exact reckon_wayl (k : Int) _ _ _ _ _ way _ F ps.length ps pb w hw1 HD HO2
  by_cases hw2 : 5 < way
  ·rw [if_pos (.inr hw2)]
   exact reckon_wayg (k : Int) _ _ _ _ _ way _ F ps.length ps pb w hw1 hw2 HD HO2
  rw [if_neg (by omega)]
  have hw : 1 ≤ way ∧ way ≤ 5 := by omega
  rw [Int.toNat_natCast]
  by_cases hN : ps.any (noNum (k : Int)) = true
  ·rw [if_pos hN]
   have HX : ∀ g cap w1, OpsV w1 (k : Int) ps g cap → Calls Tryz.prog 82 #[.slice (some ⟨g, 0, none⟩) ps.length cap] w1 fun z w' => z = .returned (.bool true) ∧ Below w1.heap.size w1 w' := fun g cap w1 h => by
    have := noNumbers_W (k : Int) ps g cap w1 h hm3
    rwa [hN] at this
   have hc : notC (famC (k : Int)) = 2 → (⟨false, 0, 0⟩ : Trip).n ≠ 0 ∧ Near ⟨false, 0, 0⟩ := fun h => (no_near (k := k) (fl := 0) h).elim
   by_cases h1 : famC (k : Int) = 1
   ·rw [if_pos h1]
    have HA := fun w1 (b : Below w.heap.size w w1) => answer_any k hk way hw (notC (famC (k : Int))) 0 false ⟨false, 0, 0⟩ none 0 w1 hc (rd_nil _ _) (hT.later b)
    have HN := fun w1 => noth_any k hk way 0 w1
    unfold dsk at HA HN HO2
    rw [h1] at HD HO2 HA HN ⊢
    exact reckon_no1 _ _ _ _ (k : Int) _ _ _ _ way _ F ps.length ps pb w hw1 hw2 HD HO2 HX HN HA
   ·rw [if_neg h1]
    exact reckon_no2 _ _ _ _ (k : Int) _ _ _ _ _ way _ F ps.length ps pb w hw1 hw2 (by simpa using h1) HD HO2 HX (fun w1 => noth_any k hk way 16 w1) (fun w1 b => answer_any k hk way hw _ 16 false ⟨false, 0, 0⟩ none 0 w1 hc (rd_nil _ _) (hT.later b))
  ·rw [if_neg hN]
   have hN' : ps.any (noNum (k : Int)) = false := by simpa using hN
   obtain ⟨hc, HFc⟩ := HF k hk rfl he hN'
   exact reckon_ok (k : Int) _ _ _ _ _ way _ _ _ _ _ _ _ F ps.length ps pb _ w hw.1 hw.2 rfl hm3 hm0 he hN' hp hfn HD (fun w1 b _ => HO w1 b) (fun g cap w1 b h => HFc g cap w1 b h) (fun ro rc w1 b r => answer_any k hk way hw _ _ _ _ ro rc w1 hc r (hT.later b))
 ·rw [if_pos he]
  refine reckon_ops _ (k : Int) _ _ _ _ _ way _ F ps.length pb w (by simpa using he) HD (fun w1 b => (HO w1 b).mono (fun z w' hz => ?_))
  rcases hz with h | h
  ·exact absurd h.1 he
  ·exact h.2
end Go.Proofs.YtnhackdjplppjaaGreatDoor

/-
  Texts laid together: Gm3.
-/
import Derived.Test.YtnhackdjplppjaaGreatDoorSp15
namespace Go.Proofs.YtnhackdjplppjaaGreatDoor
open Go.RowKit
theorem bits_of {d j k:Nat} (h1:2^j≤d) (h2:d<2^k):j<bitLen d∧bitLen d≤k:=by
 have a:=lt_bits d j;have b:=bitLen_le_of d k h2;omega
theorem power_spot {R D k:Int} {d:Nat} (hD:1≤D) (h1:2^ (widthN R*(D-1).toNat)≤d) (h2:d<2^ (widthN R*D.toNat)):powerR R D ((bitLen d:Int)-1+(widthN R:Int)*k)=k:=by
 obtain⟨b1,b2⟩:=bits_of h1 h2;unfold powerR;obtain⟨b,hb⟩: ∃b,bitLen d=b:=⟨_,rfl⟩;rw[hb] at b1 b2⊢;unfold widthN at*
 split at b1<;>simp_all<;>omega
theorem power_low {R D k:Int} {d:Nat} (hD:1≤D) (h2:d<2^ (widthN R*D.toNat)):powerR R D ((bitLen d:Int)-1+(widthN R:Int)*k)≤k:=by
 have b2:=bitLen_le_of d _ h2;unfold powerR;obtain⟨b,hb⟩: ∃b,bitLen d=b:=⟨_,rfl⟩;rw[hb] at b2⊢;unfold widthN at*
 split at b2<;>simp_all<;>omega
theorem spot_is {R D L k:Int} {gr:Bool} {d:Nat} (hD:1≤D) (h2:d<2^ (widthN R*D.toNat)) (hk:L≤k) (hf:2^ (widthN R*(D-1).toNat)≤d∨(gr=true∧k=L)):spotK R D L gr d ((widthN R:Int)*k)=k:=by
 unfold spotK
 rcases hf with h1| ⟨rfl,rfl⟩
 ·rw[power_spot hD h1 h2,decide_eq_false (by omega)]
  rfl
 ·have h:=power_low (k:=k) hD h2
  by_cases c:powerR R D ((bitLen d:Int)-1+(widthN R:Int)*k)<k
  ·rw[decide_eq_true c]
   rfl
  ·rw[decide_eq_false c]
   show powerR R D ((bitLen d:Int)-1+(widthN R:Int)*k)=k
   omega
theorem held_spot {R D L G k:Int} {gr:Bool} {d:Nat} (hD:1≤D) (h2:d<2^ (widthN R*D.toNat)) (hk:L≤k) (hf:2^ (widthN R*(D-1).toNat)≤d∨(gr=true∧k=L)) (h0:d≠0):heldB R D L G gr d ((widthN R:Int)*k)=decide (k≤G):=by
 unfold heldB;rw[spot_is hD h2 hk hf];refine decide_eq_decide.2 ?_;omega
theorem held_zero (R D L G:Int) (gr:Bool) (e:Int):heldB R D L G gr 0 e=true:=decide_eq_true (.inl rfl)
theorem width_mono (R:Int) {a b:Int} (h:a≤b):(widthN R:Int)*a≤(widthN R:Int)*b:=by
 unfold widthN
 split<;>omega
end Go.Proofs.YtnhackdjplppjaaGreatDoor

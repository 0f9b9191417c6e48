/-
  What arithmetic answers is what Encode makes; what the grid holds is answered as it is.
-/
import Derived.WalkKit
import Derived.WalkSpells
import Derived.Deep.QuietTactic
import Derived.BigQuiet
import Derived.Lib.TrailingZeros
import Derived.Test.YtnhackdjplppjaaGreatDoorChecked
import Derived.Handy
import Derived.Laws.CopyOwn
import Derived.BigRegion
import Derived.Deep.LoopGhost
import Derived.Deep.RegionLaw
import Derived.WalkSmall
import Derived.OpenShut
import Derived.Laws.MathBits
import Derived.Lib.BitFns
import Derived.Lib.Walk
import Derived.Lib.Small
import Derived.Shelf.Spec.TrailingZeros
import Derived.Deep.RegionHeld3
import Derived.Deep.MidRow
import Derived.Deep.Cut
import Derived.Laws.IdiomStrings
import Derived.Laws.ResultCell
import Derived.ChangeMaps4
import Derived.Deep.DeepCutAuto
import Derived.Deep.RegionWith
import Derived.Laws.OwnMore
import Derived.Deep.AppendLies
import Derived.Deep.CutBlock
import Derived.Maps.AppendAt
import Derived.Test.YtnhackdjplppjaaGreatDoorSd03
namespace Go.Proofs.YtnhackdjplppjaaGreatDoor
open Go.RowKit
def EncOf (n:Int) (r:ByteArray×Int×Int):Prop:=
 (r.2.2≠0∧r.1=⟨#[]⟩)∨ ∃(k:Nat) (c:Int) (g:Bool) (m:Nat) (p:Int),(1≤k∧k≤8)∧n=(k:Int)∧r.2.2=0∧encE (k:Int) c g (Dg.dg 4294967296 m) p=0∧r.1=encS (k:Int) c g (Dg.dg 4294967296 m) p
theorem encT_enc {k:Nat} (hk:1≤k∧k≤8) (c:Int) (g:Bool) (m:Nat) (p fl:Int):EncOf (k:Int) (encT k c g m p fl):=by
 unfold encT
 by_cases h:encE (k:Int) c g (Dg.dg 4294967296 m) p=0
 ·rw[if_pos h]
  exact .inr ⟨k,c,g,m,p,hk,rfl,rfl,h,rfl⟩
 ·rw[if_neg h]
  exact .inl ⟨h,rfl⟩
theorem ansT_enc {k:Nat} (hk:1≤k∧k≤8) (way c:Int) (g:Bool) (t:Trip) (fl:Int):EncOf (k:Int) (ansT k way c g t fl):=by
 unfold ansT
 split
 ·exact encT_enc hk _ _ _ _ _
 ·split<;>exact encT_enc hk _ _ _ _ _
theorem recT_enc (n way:Int) (ps:List ByteArray) (f:Int×Bool×Trip×Int):EncOf n (recT n way ps f):=by
 unfold recT
 by_cases hf:famC n=0
 ·rw[if_pos hf]
  exact .inl ⟨by decide,rfl⟩
 rw[if_neg hf]
 by_cases he:errL n ps≠0
 ·rw[if_pos he]
  exact .inl ⟨he,rfl⟩
 rw[if_neg he];obtain⟨k1,k2,k3⟩:=famC_in hf;obtain⟨k,rfl⟩: ∃k:Nat,n=(k:Int):=⟨n.toNat,k3.symm⟩;rw[Int.toNat_natCast] at k1 k2⊢
 split
 ·exact .inl ⟨by decide,rfl⟩
 ·split<;>exact ansT_enc ⟨k1,k2⟩ _ _ _ _ _
theorem enE_parts {k:Nat} (hk:1≤k∧k≤8) {g:Bool} {xs:List Nat} {p:Int} (sa:Dg.Small 4294967296 xs) (hc:chk xs=0) (h:enE k g xs p=0):
  ¬(p< -20000∨20000<p)∧heldB (rdN k:Int) (dgN k:Int) (lsI k) (gsI k) (decide (k≤3)) (bare ⟨g,Dg.vl 4294967296 xs,(widthN (rdN k:Int):Int)*p⟩).n (bare ⟨g,Dg.vl 4294967296 xs,(widthN (rdN k:Int):Int)*p⟩).e=true∧dchk (Dg.dg 4294967296 (bare ⟨g,Dg.vl 4294967296 xs,(widthN (rdN k:Int):Int)*p⟩).n) (bare ⟨g,Dg.vl 4294967296 xs,(widthN (rdN k:Int):Int)*p⟩).e=0:=by
 obtain⟨-,-,-,-,-,-,lg,-,-,-,-,hg⟩:=fmt_fit hk;obtain⟨g1,g2⟩:=fmt_ends hk;have hp: ¬(p< -20000∨20000<p):=fun c=>by
  unfold enE at h;rw[if_pos c] at h;exact absurd h (by decide)
 have hx:xs.length≠0:=fun c=>by
  unfold enE at h;rw[if_neg hp,if_pos c] at h;exact absurd h (by decide)
 have hn:=num_held hk (ng:=g) hc hx hp;rw[h] at hn;have hi:inR (rdN k:Int) (dgN k:Int) (lsI k) (gsI k) (decide (k≤3)) (bare ⟨g,Dg.vl 4294967296 xs,(widthN (rdN k:Int):Int)*p⟩).n (bare ⟨g,Dg.vl 4294967296 xs,(widthN (rdN k:Int):Int)*p⟩).e=true:=by
  by_cases c:inR (rdN k:Int) (dgN k:Int) (lsI k) (gsI k) (decide (k≤3)) (bare ⟨g,Dg.vl 4294967296 xs,(widthN (rdN k:Int):Int)*p⟩).n (bare ⟨g,Dg.vl 4294967296 xs,(widthN (rdN k:Int):Int)*p⟩).e=true
  ·exact c
  ·rw[if_neg c] at hn
   exact absurd hn (by decide)
 have hvn:Dg.vl 4294967296 xs≠0:=fun h=>by
  obtain⟨n1,-⟩:=chk_zero hc;exact Dg.vl_ne_zero 4294967296 (by omega) xs (by intro e;subst e;simp at hx) n1 h
 have hb:=(bare_top (t:=⟨g,Dg.vl 4294967296 xs,(widthN (rdN k:Int):Int)*p⟩) hvn).1;refine⟨hp, ?_, ?_⟩
 ·rw[held_bare _ _ lg,←held_in _ _ lg]
  exact hi
 ·unfold inR at hi
  rcases of_decide_eq_true hi with c| ⟨c1,c2,-,-⟩
  ·exact absurd c hb
  refine dchk_of ?_ (by omega) (by omega);refine Nat.le_trans (two_len (L:=1200) (bit_lt (Nat.le_refl _)) ?_) (Nat.le_refl _);omega
theorem held_exact {R D L G:Int} {gr s:Bool} {n:Nat} {e way:Int} (h1:1≤D) (hLG:L≤G) (h0:n≠0) (hh:heldB R D L G gr n e=true):(roundT R D L G gr s n 1 e way).ex=true∧L≤spotK R D L gr n e:=by
 have hs:L≤spotK R D L gr n e∧spotK R D L gr n e≤G∧(widthN R:Int)*spotK R D L gr n e≤e+(tz n:Int):=by
  unfold heldB at hh
  rcases of_decide_eq_true hh with h|h
  ·exact absurd h h0
  ·exact h
 have hc:cutP R D L gr n 1 e=spotK R D L gr n e:=by
  unfold cutP spotK;rw[topQ_one h0]
 refine⟨?_,hs.1⟩;rw[roundT_flat gr s n 1 e way h1 hLG h0 (by omega)];refine decide_eq_true ?_;unfold leftP shP;rw[hc];exact(one_parts s n e _ hs.2.2).1
theorem held_ans {k:Nat} (hk:1≤k∧k≤8) (way:Int) (g:Bool) (t:Trip) (fl:Int) (h0:t.n≠0) (hh:heldB (rdN k:Int) (dgN k:Int) (lsI k) (gsI k) (decide (k≤3)) t.n t.e=true)
  {xs:List Nat} {p:Int} (sa:Dg.Small 4294967296 xs) (hc:chk xs=0) (he:enE k t.s xs p=0) (hb:bare ⟨t.s,Dg.vl 4294967296 xs,(widthN (rdN k:Int):Int)*p⟩=bare t):
  ansT k way 2 g t fl=(encS (k:Int) 2 t.s xs p,bits .or .i64 fl 0,0):=by
 obtain⟨-,-,d1,-,-,-,lg,-,w64,-,-,hg⟩:=fmt_fit hk;have hD:(1:Int)≤(dgN k:Int):=by omega
 obtain⟨o1,o2,o3⟩:=held_round (s:=t.s) (way:=way) hD lg h0 hh;obtain⟨q1,q2,q3,q4⟩:=held_place (s:=t.s) (way:=way) hD lg h0 hh;obtain⟨ex,hL⟩:=held_exact (s:=t.s) (way:=way) hD lg h0 hh;have hsp:InSpot (rdN k:Int) (dgN k:Int) (lsI k) (gsI k) (decide (k≤3)) (plcT k way t).d (plcT k way t).p:=round_spot hD lg h0 (by omega) o1 o2;obtain⟨l15,p1,p2,-,-,-⟩:=spot_fits hg hsp;have hd:(plcT k way t).d≠0:=fun c=>q4 (q2.symm.trans c)
 have hs:(plcT k way t).s=t.s:=q1;have hset:setV k way (plcT k way t)=(2,t.s,(plcT k way t).d,(plcT k way t).p,0):=by
  unfold setV;rw[if_neg (fun c=>by rw[show(plcT k way t).ov=false from o1] at c;cases c),if_neg (fun c=>by have:=c.2;rw[show(plcT k way t).p=spotK (rdN k:Int) (dgN k:Int) (lsI k) (decide (k≤3)) t.n t.e from q3] at this;omega),if_neg hd,if_pos (show(plcT k way t).ex=true from ex),hs]
 have hcd:chk (Dg.dg 4294967296 (plcT k way t).d)=0:=chk_of (Dg.norm_dg _ _ (by omega)) (by omega);have hl0:(Dg.dg 4294967296 (plcT k way t).d).length≠0:=fun c=>hd ((Dg.dg_nil_iff 4294967296 _ (by omega)).1 (List.length_eq_zero_iff.1 c))
 have hv:=Dg.vl_dg 4294967296 (plcT k way t).d (by omega);have hb2:bare ⟨t.s,Dg.vl 4294967296 (Dg.dg 4294967296 (plcT k way t).d),(widthN (rdN k:Int):Int)*(plcT k way t).p⟩=bare t:=by
  rw[hv];have:=o3;rw[q1] at this;exact this
 have hE:enE k t.s (Dg.dg 4294967296 (plcT k way t).d) (plcT k way t).p=0:=by
  rw[num_held hk hcd hl0 (by omega),hb2,held_in _ _ lg,hh,if_pos rfl]
 unfold ansT encT;rw[if_pos rfl,hset];simp only;rw[(two_is hk hcd).1,hE,if_pos rfl,(two_is hk hcd).2,(two_is hk hc).2];rw[enS_bare sa (Dg.small_dg _ _ (by omega)) hc hcd he hE (hb2.trans hb.symm)]
end Go.Proofs.YtnhackdjplppjaaGreatDoor

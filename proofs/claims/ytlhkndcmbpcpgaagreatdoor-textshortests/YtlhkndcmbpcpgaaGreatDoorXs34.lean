/- Texts laid together. -/
import Derived.Test.YtlhkndcmbpcpgaaGreatDoorXs27
import Derived.Test.YtlhkndcmbpcpgaaGreatDoorXs31
namespace Go.Proofs.YtlhkndcmbpcpgaaGreatDoor
open Go.RowKit
abbrev A7:=decodeOf_two_mg.1
abbrev qN:=decodeOf_two_mg.2
abbrev BQ:=decodeOf_one_mg.1
abbrev Ll:=decodeOf_one_mg.2
theorem KI (k:Nat)(v:1≤k∧k≤8)(s:ByteArray)(w:World)(x:s.size=szN k):
  yC 6 #[yi k,.string s] w (JV w (FV k (aZ k s) (aR k s) (aU k s)) (zR k (aZ k s) (aR k s) (aU k s)) (ji k (aZ k s) (aR k s) (aU k s)) (aZ k s)):=by
 obtain⟨l,m,n,o,-,p⟩:=fZ v;obtain⟨e,f,g,h,i,j⟩:=YC v;have d:=fun a=>qU k v a
 have c:=fun a=>P3 k v s a x
 have t:aZ k s=decide (fU (wG k s) 0=1):=by
  unfold aZ;rw[show eH (wG k s) 0 1=fU (wG k s) 0 from by simp[eH]]
 have q:aR k s=eH (wG k s) 1 (exN k):=rfl;have r:aU k s=eH (wG k s) (1+exN k) (frN k):=rfl;generalize aZ k s=ng at*;generalize aR k s=E at*;generalize aU k s=b at*;generalize wG k s=u at*
 rcases bO v with rfl|rfl|rfl|rfl|rfl|rfl|rfl|rfl
 ·unfold FV zR ji
  rw[if_neg (show¬1=3 by decide),if_pos (show 1≤2 by decide),if_neg (show¬1=3 by decide),if_pos (show 1≤2 by decide),if_neg (show¬1=3 by decide),if_pos (show 1≤2 by decide)]
  exact BQ 1 (szN 1) (exN 1) (frN 1) (dgN 1-1) 2 24 (lsI 1) 104 (wdI ((rdN 1:Nat):Int)) true s u ng E b w t q r l m p n o e (by decide) f g h i j d c (fun a=>eG 2 24 (lsI 1) 104 true a) (by decide)
 ·unfold FV zR ji
  rw[if_neg (show¬2=3 by decide),if_pos (show 2≤2 by decide),if_neg (show¬2=3 by decide),if_pos (show 2≤2 by decide),if_neg (show¬2=3 by decide),if_pos (show 2≤2 by decide)]
  exact BQ 2 (szN 2) (exN 2) (frN 2) (dgN 2-1) 2 53 (lsI 2) 971 (wdI ((rdN 2:Nat):Int)) true s u ng E b w t q r l m p n o e (by decide) f g h i j d c (fun a=>eG 2 53 (lsI 2) 971 true a) (by decide)
 ·unfold FV zR ji
  rw[if_pos (show 3=3 from rfl),if_pos (show 3=3 from rfl),if_pos (show 3=3 from rfl)]
  exact Ll (szN 3) (exN 3) (frN 3) (dgN 3-1) 2 64 (lsI 3) 16320 (wdI ((rdN 3:Nat):Int)) true s u ng E b w t q r l m p n o e (by decide) f g h i j d c (fun a=>eG 2 64 (lsI 3) 16320 true a)
 ·unfold FV zR ji
  rw[if_neg (show¬4=3 by decide),if_neg (show¬4≤2 by decide),if_pos (show 4≤5 by decide),if_neg (show¬4=3 by decide),if_neg (show¬4≤2 by decide),if_pos (show 4≤5 by decide),if_neg (show¬4=3 by decide),if_neg (show¬4≤2 by decide),if_pos (show 4≤5 by decide)]
  exact A7 4 (szN 4) (exN 4) (frN 4) (dgN 4-1) 16 6 (lsI 4) 57 (wdI ((rdN 4:Nat):Int)) false s u ng E b w t q r l m p n o e (by decide) f g h i j d c (fun a=>eG 16 6 (lsI 4) 57 false a)
 ·unfold FV zR ji
  rw[if_neg (show¬5=3 by decide),if_neg (show¬5≤2 by decide),if_pos (show 5≤5 by decide),if_neg (show¬5=3 by decide),if_neg (show¬5≤2 by decide),if_pos (show 5≤5 by decide),if_neg (show¬5=3 by decide),if_neg (show¬5≤2 by decide),if_pos (show 5≤5 by decide)]
  exact A7 5 (szN 5) (exN 5) (frN 5) (dgN 5-1) 16 14 (lsI 5) 49 (wdI ((rdN 5:Nat):Int)) false s u ng E b w t q r l m p n o e (by decide) f g h i j d c (fun a=>eG 16 14 (lsI 5) 49 false a)
 ·unfold FV zR ji
  rw[if_neg (show¬6=3 by decide),if_neg (show¬6≤2 by decide),if_neg (show¬6≤5 by decide),if_neg (show¬6=3 by decide),if_neg (show¬6≤2 by decide),if_neg (show¬6≤5 by decide),if_neg (show¬6=3 by decide),if_neg (show¬6≤2 by decide),if_neg (show¬6≤5 by decide)]
  exact qN 6 (szN 6) (exN 6) (frN 6) (dgN 6-1) 2 24 (lsI 6) 103 (wdI ((rdN 6:Nat):Int)) false s u ng E b w t q r l m p n o e (by decide) f g h i j d c (fun a=>eG 2 24 (lsI 6) 103 false a)
 ·unfold FV zR ji
  rw[if_neg (show¬7=3 by decide),if_neg (show¬7≤2 by decide),if_neg (show¬7≤5 by decide),if_neg (show¬7=3 by decide),if_neg (show¬7≤2 by decide),if_neg (show¬7≤5 by decide),if_neg (show¬7=3 by decide),if_neg (show¬7≤2 by decide),if_neg (show¬7≤5 by decide)]
  exact qN 7 (szN 7) (exN 7) (frN 7) (dgN 7-1) 2 56 (lsI 7) 71 (wdI ((rdN 7:Nat):Int)) false s u ng E b w t q r l m p n o e (by decide) f g h i j d c (fun a=>eG 2 56 (lsI 7) 71 false a)
 ·unfold FV zR ji
  rw[if_neg (show¬8=3 by decide),if_neg (show¬8≤2 by decide),if_neg (show¬8≤5 by decide),if_neg (show¬8=3 by decide),if_neg (show¬8≤2 by decide),if_neg (show¬8≤5 by decide),if_neg (show¬8=3 by decide),if_neg (show¬8≤2 by decide),if_neg (show¬8≤5 by decide)]
  exact qN 8 (szN 8) (exN 8) (frN 8) (dgN 8-1) 2 53 (lsI 8) 970 (wdI ((rdN 8:Nat):Int)) false s u ng E b w t q r l m p n o e (by decide) f g h i j d c (fun a=>eG 2 53 (lsI 8) 970 false a)
theorem mW n (s:ByteArray)(w:World)(h:dF n s=0):
  yC 6 #[yi n,.string s] w (JV w ((bM n s:Nat):Int) (zR n.toNat (aZ n.toNat s) (aR n.toNat s) (aU n.toNat s)) (ji n.toNat (aZ n.toNat s) (aR n.toNat s) (aU n.toNat s)) (Gi n s)):=by
 have a:dK n≠0:=fun a=>by
  unfold dF at h;rw[if_pos a] at h;omega
 have f:s.size=szN n.toNat:=by
  unfold dF at h;rw[if_neg a] at h
  by_cases c:s.size=szN n.toNat
  ·exact c
  ·rw[if_neg c] at h
   omega
 obtain⟨b,d,e⟩:=fF a;have:=KI n.toNat ⟨b,d⟩ s w f;rw[YD _ ⟨b,d⟩,e] at this;unfold bM Gi;rw[if_pos h,if_pos h];exact this
end Go.Proofs.YtlhkndcmbpcpgaaGreatDoor

/-
  Texts laid together: Cr9, Oq5, Ra4, Cv4.
-/
import Derived.Test.YtddkchlamdhgcaaGreatDoorSu33
import Derived.Test.YtddkchlamdhgcaaGreatDoorSu34
import Derived.Test.YtddkchlamdhgcaaGreatDoorSu43
import Derived.Test.YtddkchlamdhgcaaGreatDoorSu44
namespace Go.Proofs.YtddkchlamdhgcaaGreatDoor
open Go.RowKit
theorem KI (k:Nat)(hk:1≤k∧k≤8)(s:ByteArray)(w:World)(hs:s.size=szN k):
  yC 20 #[yi k,.string s] w (JV w (FV k (aZ k s) (aR k s) (aU k s)) (zR k (aZ k s) (aR k s) (aU k s)) (ji k (aZ k s) (aR k s) (aU k s)) (aZ k s)):=by
 obtain⟨h1,h2,h3,h4,-,h7⟩:=fZ hk;obtain⟨g1,g2,g3,g4,g5,g6⟩:=YC hk;have HF:=fun w1=>qU k hk w1
 have HB:=fun w1=>P3 k hk s w1 hs
 have hng:aZ k s=decide (fU (wG k s) 0=1):=by
  unfold aZ;rw[show eH (wG k s) 0 1=fU (wG k s) 0 from by simp[eH]]
 have hE:aR k s=eH (wG k s) 1 (exN k):=rfl;have hFF:aU k s=eH (wG k s) (1+exN k) (frN k):=rfl;generalize aZ k s=ng at*;generalize aR k s=E at*;generalize aU k s=FF at*;generalize wG k s=ts at*
 rcases bO hk with rfl|rfl|rfl|rfl|rfl|rfl|rfl|rfl
 ·unfold FV zR ji
  rw[if_neg (show¬1=3 by decide),if_pos (show 1≤2 by decide),if_neg (show¬1=3 by decide),if_pos (show 1≤2 by decide),if_neg (show¬1=3 by decide),if_pos (show 1≤2 by decide)]
  exact BQ 1 (szN 1) (exN 1) (frN 1) (dgN 1-1) 2 24 (lsI 1) 104 (wdI ((rdN 1:Nat):Int)) true s ts ng E FF w hng hE hFF h1 h2 h7 h3 h4 g1 (by decide) g2 g3 g4 g5 g6 HF HB (fun w1=>eG 2 24 (lsI 1) 104 true w1) (by decide)
 ·unfold FV zR ji
  rw[if_neg (show¬2=3 by decide),if_pos (show 2≤2 by decide),if_neg (show¬2=3 by decide),if_pos (show 2≤2 by decide),if_neg (show¬2=3 by decide),if_pos (show 2≤2 by decide)]
  exact BQ 2 (szN 2) (exN 2) (frN 2) (dgN 2-1) 2 53 (lsI 2) 971 (wdI ((rdN 2:Nat):Int)) true s ts ng E FF w hng hE hFF h1 h2 h7 h3 h4 g1 (by decide) g2 g3 g4 g5 g6 HF HB (fun w1=>eG 2 53 (lsI 2) 971 true w1) (by decide)
 ·unfold FV zR ji
  rw[if_pos (show 3=3 from rfl),if_pos (show 3=3 from rfl),if_pos (show 3=3 from rfl)]
  exact Ll (szN 3) (exN 3) (frN 3) (dgN 3-1) 2 64 (lsI 3) 16320 (wdI ((rdN 3:Nat):Int)) true s ts ng E FF w hng hE hFF h1 h2 h7 h3 h4 g1 (by decide) g2 g3 g4 g5 g6 HF HB (fun w1=>eG 2 64 (lsI 3) 16320 true w1)
 ·unfold FV zR ji
  rw[if_neg (show¬4=3 by decide),if_neg (show¬4≤2 by decide),if_pos (show 4≤5 by decide),if_neg (show¬4=3 by decide),if_neg (show¬4≤2 by decide),if_pos (show 4≤5 by decide),if_neg (show¬4=3 by decide),if_neg (show¬4≤2 by decide),if_pos (show 4≤5 by decide)]
  exact A7 4 (szN 4) (exN 4) (frN 4) (dgN 4-1) 16 6 (lsI 4) 57 (wdI ((rdN 4:Nat):Int)) false s ts ng E FF w hng hE hFF h1 h2 h7 h3 h4 g1 (by decide) g2 g3 g4 g5 g6 HF HB (fun w1=>eG 16 6 (lsI 4) 57 false w1)
 ·unfold FV zR ji
  rw[if_neg (show¬5=3 by decide),if_neg (show¬5≤2 by decide),if_pos (show 5≤5 by decide),if_neg (show¬5=3 by decide),if_neg (show¬5≤2 by decide),if_pos (show 5≤5 by decide),if_neg (show¬5=3 by decide),if_neg (show¬5≤2 by decide),if_pos (show 5≤5 by decide)]
  exact A7 5 (szN 5) (exN 5) (frN 5) (dgN 5-1) 16 14 (lsI 5) 49 (wdI ((rdN 5:Nat):Int)) false s ts ng E FF w hng hE hFF h1 h2 h7 h3 h4 g1 (by decide) g2 g3 g4 g5 g6 HF HB (fun w1=>eG 16 14 (lsI 5) 49 false w1)
 ·unfold FV zR ji
  rw[if_neg (show¬6=3 by decide),if_neg (show¬6≤2 by decide),if_neg (show¬6≤5 by decide),if_neg (show¬6=3 by decide),if_neg (show¬6≤2 by decide),if_neg (show¬6≤5 by decide),if_neg (show¬6=3 by decide),if_neg (show¬6≤2 by decide),if_neg (show¬6≤5 by decide)]
  exact qN 6 (szN 6) (exN 6) (frN 6) (dgN 6-1) 2 24 (lsI 6) 103 (wdI ((rdN 6:Nat):Int)) false s ts ng E FF w hng hE hFF h1 h2 h7 h3 h4 g1 (by decide) g2 g3 g4 g5 g6 HF HB (fun w1=>eG 2 24 (lsI 6) 103 false w1)
 ·unfold FV zR ji
  rw[if_neg (show¬7=3 by decide),if_neg (show¬7≤2 by decide),if_neg (show¬7≤5 by decide),if_neg (show¬7=3 by decide),if_neg (show¬7≤2 by decide),if_neg (show¬7≤5 by decide),if_neg (show¬7=3 by decide),if_neg (show¬7≤2 by decide),if_neg (show¬7≤5 by decide)]
  exact qN 7 (szN 7) (exN 7) (frN 7) (dgN 7-1) 2 56 (lsI 7) 71 (wdI ((rdN 7:Nat):Int)) false s ts ng E FF w hng hE hFF h1 h2 h7 h3 h4 g1 (by decide) g2 g3 g4 g5 g6 HF HB (fun w1=>eG 2 56 (lsI 7) 71 false w1)
 ·unfold FV zR ji
  rw[if_neg (show¬8=3 by decide),if_neg (show¬8≤2 by decide),if_neg (show¬8≤5 by decide),if_neg (show¬8=3 by decide),if_neg (show¬8≤2 by decide),if_neg (show¬8≤5 by decide),if_neg (show¬8=3 by decide),if_neg (show¬8≤2 by decide),if_neg (show¬8≤5 by decide)]
  exact qN 8 (szN 8) (exN 8) (frN 8) (dgN 8-1) 2 53 (lsI 8) 970 (wdI ((rdN 8:Nat):Int)) false s ts ng E FF w hng hE hFF h1 h2 h7 h3 h4 g1 (by decide) g2 g3 g4 g5 g6 HF HB (fun w1=>eG 2 53 (lsI 8) 970 false w1)
theorem mW n (s:ByteArray)(w:World)(h:dF n s=0):
  yC 20 #[yi n,.string s] w (JV w ((bM n s:Nat):Int) (zR n.toNat (aZ n.toNat s) (aR n.toNat s) (aU n.toNat s)) (ji n.toNat (aZ n.toNat s) (aR n.toNat s) (aU n.toNat s)) (Gi n s)):=by
 have hf:dK n≠0:=fun hf=>by
  unfold dF at h;rw[if_pos hf] at h;omega
 have hs:s.size=szN n.toNat:=by
  unfold dF at h;rw[if_neg hf] at h
  by_cases c:s.size=szN n.toNat
  ·exact c
  ·rw[if_neg c] at h
   omega
 obtain⟨h1,h2,h3⟩:=fF hf;have:=KI n.toNat ⟨h1,h2⟩ s w hs;rw[YD _ ⟨h1,h2⟩,h3] at this;unfold bM Gi;rw[if_pos h,if_pos h];exact this
theorem Qc (n way:Int)(ps:List ByteArray)(pb:Nat)(w:World)(hps:au w pb 9 (ps.map Value.string))(hm:ps.length≤3):
  yC 8 #[yi n,yi way,.slice (some ⟨pb,0,none⟩) ps.length ps.length] w (Ri w n ps (CK n way ps)):=by
 by_cases hf:dK n=0
 ·exact Mz n way _ _ _ _ _ _ _ _ _ false (iC way) ps pb w hps hm (by simpa using hf) rfl (fun w1=>oT n w1 hf) (fun p w1=>xu n p w1) (fun p w1 h=>mW n p w1 h) (fun w1=>qi way w1)
 ·obtain⟨h1,h2,h3⟩:=fF hf
  obtain⟨k,rfl⟩: ∃k:Nat,n=(k:Int):=⟨n.toNat,h3.symm⟩;rw[Int.toNat_natCast] at h1 h2;exact Mz (k:Int) way _ _ _ _ _ _ _ _ _ true (iC way) ps pb w hps hm (by simpa using hf) rfl (fun w1=>sU k ⟨h1,h2⟩ w1) (fun p w1=>xu _ p w1) (fun p w1 h=>mW _ p w1 h) (fun w1=>qi way w1)
theorem open_err {n way:Int}{ps:List ByteArray}(h:CK n way ps≠0)(hm:ps.length≤3)(pb:Nat)(w:World)(hl:au w pb 9 (ps.map Value.string)):yC 8 #[yi n,yi way,.slice (some ⟨pb,0,none⟩) ps.length ps.length] w (yR w (.tuple #[yN,yi (CK n way ps)])):=
 (Qc n way ps pb w hl hm).mono (fun z w' h2=>by
  rcases h2 with⟨e,-⟩| ⟨-,e,b⟩
  ·exact absurd e h
  ·exact⟨e,b⟩)
theorem open_ok {n way:Int}{ps:List ByteArray}(h:CK n way ps=0)(hm:ps.length≤3)(h0:ps≠[])(pb:Nat)(w:World)(hl:au w pb 9 (ps.map Value.string)):yC 8 #[yi n,yi way,.slice (some ⟨pb,0,none⟩) ps.length ps.length] w fun z w'=> ∃gb cap,z= .returned (.tuple #[.slice (some ⟨gb,0,none⟩) ps.length cap,yi 0])∧ab5 w' n ps gb cap∧yB w w':=
 (Qc n way ps pb w hl hm).mono (fun z w' h2=>by
  rcases h2 with⟨-,v,cs,e,ho,hat,b⟩| ⟨e,-⟩
  ·obtain⟨g,cap,rfl,hv⟩:=ab6 h0 ho hat
   exact⟨g,cap,e,hv,b⟩
  ·exact absurd h e)
theorem convread_any n (s:ByteArray)(way:Int)(w:World)(hT:Tab w):
  (dF n s≠0→yC 30 #[yi n,.string s,yi way] w (CRes w 0 false 0 0 ⟨false,0,0⟩ (dF n s)))∧
  (dF n s=0→ ¬(1≤way∧way≤5)→yC 30 #[yi n,.string s,yi way] w (CRes w 0 false 0 0 ⟨false,0,0⟩ 6))∧
  (dF n s=0→1≤way∧way≤5→yC 30 #[yi n,.string s,yi way] w (CRes w ((bM n s:Nat):Int) (dz n s) (gJ n s) (iF n s) (opT n s) 0)):=by
 have HR:=fun w1 (b:yB w w1)=>zj n s w1 (hT.l b)
 refine⟨fun h=>cread_err n way _ _ _ _ _ _ s w h HR,fun h hw=> ?_,fun h hw=> ?_⟩
 ·rw[h] at HR
  by_cases h1:way<1
  ·exact cread_low n way _ _ _ _ _ s w h1 HR
  ·exact cread_high n way _ _ _ _ _ s w h1 (by omega) HR
 ·rw[h] at HR
  exact cread_ok n way _ _ _ _ _ s w (by omega) (by omega) HR
theorem convert_any n (s:ByteArray)(k:Nat)(hk:1≤k∧k≤8)(way:Int)(w:World)(hT:Tab w)(hp:dF n s=0)(hw:1≤way∧way≤5):
  yC 26 #[yi n,.string s,yi k,yi way] w (mM (cvT k way ((bM n s:Nat):Int) (dz n s) (opT n s)) w):=by
 have hf:(dK k==0)=false:=by
  rcases qt hk with h|h|h<;>rw[h]<;>rfl
 have HF:=fun w1=>fam_any k w1
 have HQ:=fun w1 (b:yB w w1)=>(convread_any n s way w1 (hT.l b)).2.2 hp hw
 unfold cvT
 by_cases h2:((bM n s:Nat):Int)=2
 ·rw[if_pos h2]
  rw[h2] at HQ;exact convert_num _ _ _ _ _ _ _ (opT n s) n k way s w hf HF HQ (fun xo xc w1=>wratio_any (opT n s) xo xc w1) (fun xo xc eo ec w1 b rx re=>fit_any k hk way (opT n s).s xo xc (Dg.dg 4294967296 (opT n s).n) eo ec [1] (opT n s).e w1 rx re (Dg.small_dg _ _ (by omega)) small_one (hT.l b))
 ·rw[if_neg h2]
  have hM:gJ n s=0∧iF n s=0:=by
   have hc:dh n.toNat (aZ n.toNat s) (aR n.toNat s) (aU n.toNat s)≠2:=fun c=>h2 (by
    unfold bM;rw[if_pos hp,c];rfl)
   unfold gJ iF ge gw;rw[if_pos hp,if_pos hp,if_neg hc,if_neg hc];exact⟨rfl,rfl⟩
  rw[hM.1,hM.2] at HQ;have HE:=fun ao ac w1 (b:yB w w1) (r:Rd w1 .u32 (yT ao 0 ac) (Dg.dg 4294967296 0))=>jj k (mvV ((bM n s:Nat):Int) (dz n s) (dK k)).1 (mvV ((bM n s:Nat):Int) (dz n s) (dK k)).2.1 ao ac (Dg.dg 4294967296 0) 0 w1 r (Dg.small_dg _ _ (by omega)) (hT.l b)
  have HM:=fun vo vc w1 (_:yB w w1) (r:Rd w1 .u32 (yT vo 0 vc) (Dg.dg 4294967296 0))=>moved_any ((bM n s:Nat):Int) (dz n s) (dK k) (qt hk) vo vc w1 r
  unfold Dw;generalize mvV ((bM n s:Nat):Int) (dz n s) (dK k)=v at*
  by_cases he:gI k v.1 v.2.1 (Dg.dg 4294967296 0) 0=0
  ·rw[if_pos he]
   rw[he] at HE;exact convert_oth _ _ _ _ _ _ _ 0 _ _ 0 (opT n s) n k way s w hf (by simpa using h2) HF HQ HM HE
  ·rw[if_neg he]
   exact convert_bad _ _ _ _ _ _ _ _ 0 _ _ 0 (opT n s) n k way s w hf (by simpa using h2) he HF HQ HM HE
theorem convBegun_any (w:World)(hT:Tab w):yC 16 #[] w (yR w (.bool true)):=by
 obtain⟨p1,p2,p3⟩:=pat3_dec;obtain⟨r1,r2⟩:=three_round;refine convBegun_W pat3 w (fun w1 b1=> ?_) (fun w1 b1=> ?_)
 ·refine fromInt_pos 3 4 1 0 0 3 pat3 w1 (by decide) (by decide) (fun w2 b2=>(KH 3 (by omega) w2).mono (fun z w' h=>by
   obtain⟨v,e,o,b⟩:=h;exact⟨v,e,o.rd,b⟩)) (fun ao ac q w2 b2 r l=> ?_)
  have:=fit_any 4 (by omega) 1 false ao ac (Dg.dg 4294967296 3) (some ⟨q,0,none⟩) 1 [1] 0 w2 r (aa0 (r:=1) (l.c 0 rfl)) (Dg.small_dg _ _ (by omega)) small_one ((hT.l b1).l b2);rw[pat3_fit] at this;exact this
 ·have HQ:=fun w2 (b2:yB w1 w2)=>(convread_any 4 pat3 1 w2 ((hT.l b1).l b2)).2.2 p1 (by decide)
  rw[p2,p3] at HQ;refine toInt_exact 4 1 _ 0 3 _ false false true _ 3 ⟨false,3,0⟩ pat3 w1 HQ (fun xo xc w2=>wratio_any ⟨false,3,0⟩ xo xc w2) (fun xo xc eo ec w2 b2 rx re=> ?_) (fun po pc w2 b2 r=> ?_)
  ·have:=jM false xo xc (Dg.dg 4294967296 3) eo ec [1] 0 2 64 0 0 true 1 w2 rx re (Dg.small_dg _ _ (by omega)) small_one
   rw[r1,r2] at this;refine this.mono (fun z w' h=> ?_)
   obtain⟨v,h1,h2,h3⟩:=h;obtain⟨po,pc,e⟩:=h2.rd.shape;subst e;exact⟨po,pc,h1,h2.rd,h3⟩
  ·exact cwhole_pos 0 true true 3 po pc w2 (by decide) (by decide) (by decide) (fun w3 b3=>by
    have:=XF (yT po 3 pc) (Dg.dg 4294967296 3) w3 (r.l b3) (Dg.small_dg _ _ (by omega)) (by decide);rw[Dg.vl_dg _ _ (by omega)] at this;exact this)
end Go.Proofs.YtddkchlamdhgcaaGreatDoor

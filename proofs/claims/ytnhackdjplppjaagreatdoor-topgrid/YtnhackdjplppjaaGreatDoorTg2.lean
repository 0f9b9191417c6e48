/-
  TopGrid, paid.
-/
import Derived.Test.YtnhackdjplppjaaGreatDoorOa0
import Derived.Test.YtnhackdjplppjaaGreatDoorTg1
set_option maxRecDepth 100000
namespace Go.Proofs.YtnhackdjplppjaaGreatDoor
open Go.RowKit
theorem choose6_any (c:Int) (w:World) (h1: -9223372036854775808≤c) (h2:c≤9223372036854775807):
  ∃d:Nat,d<6∧ ∀w1,Below w.heap.size w w1→Calls Tryz.prog 47 #[yi c,yi 6] w1 fun z w'=>z= .returned (yi (d:Int))∧Below w1.heap.size w1 w':=by
 by_cases h:c<0
 ·have ht:(c+1).tmod 6= -((-(c+1)) % 6):=by
   have:=Int.neg_tmod (-(c+1)) 6;rw[Int.neg_neg] at this;have h2:(-(c+1)).tmod 6=(-(c+1)) % 6:=Int.tmod_eq_emod_of_nonneg (by omega);rw[this,h2]
  obtain⟨d,hd⟩: ∃d:Nat,(-(c+1)) % 6=(d:Int):=⟨((-(c+1)) % 6).toNat,by omega⟩;rw[hd] at ht;have hdl:d<6:=by omega
  clear hd;refine⟨d,hdl,fun w1 _=> ?_⟩
  go_enter Tryz.func47,Tryz.ntmps47
  go_wp2
  go_ret
  exact⟨by go_num,Below.refl _ _⟩
 ·obtain⟨d,hd⟩: ∃d:Nat,c % 6=(d:Int):=⟨(c % 6).toNat,by omega⟩
  have ht:c.tmod 6=(d:Int):=by rw[Int.tmod_eq_emod_of_nonneg (by omega)];exact hd
  have hdl:d<6:=by omega
  refine⟨d,hdl,fun w1 _=> ?_⟩
  go_enter Tryz.func47,Tryz.ntmps47
  go_wp2
  go_ret
  exact⟨by go_num,Below.refl _ _⟩
theorem top_pay (n:Int) (r:ByteArray×Int×Int) (hr:EncOf n r) (w:World) (hT:Tab w) (X:Prop)
  (H1:r.2.2≠0→r.1=⟨#[]⟩→X)
  (H2: ∀(c p R D L G:Int) (gr ng:Bool) (m:Nat),(c==2)=false→r.2.2=0→(∀w1,Below w.heap.size w w1→Calls Tryz.prog 43 #[yi n,.string r.1] w1 (DecRes w1 c ng m p 0))→(∀vo vc w1,Below w.heap.size w w1→Rd w1 .u32 (.slice vo (Dg.dg 4294967296 m).length vc) (Dg.dg 4294967296 m)→Calls Tryz.prog 44 #[yi n,yvV c ng (.slice vo (Dg.dg 4294967296 m).length vc) p] w1 fun z w'=>z= .returned (.tuple #[.string r.1,yi 0])∧Below w1.heap.size w1 w')→(∀w1,Below w.heap.size w w1→Calls Tryz.prog 50 #[yi n] w1 fun z w'=>z= .returned (.tuple #[ygV R D L G gr,yi 0])∧Below w1.heap.size w1 w')→X)
  (H3: ∀(x:Trip) (p R D L G:Int) (gr ng:Bool) (m:Nat),r.2.2=0→(∀w1,Below w.heap.size w w1→Calls Tryz.prog 43 #[yi n,.string r.1] w1 (DecRes w1 2 ng m p 0))→(∀vo vc w1,Below w.heap.size w w1→Rd w1 .u32 (.slice vo (Dg.dg 4294967296 m).length vc) (Dg.dg 4294967296 m)→Calls Tryz.prog 44 #[yi n,yvV 2 ng (.slice vo (Dg.dg 4294967296 m).length vc) p] w1 fun z w'=>z= .returned (.tuple #[.string r.1,yi 0])∧Below w1.heap.size w1 w')→(∀w1,Below w.heap.size w w1→Calls Tryz.prog 50 #[yi n] w1 fun z w'=>z= .returned (.tuple #[ygV R D L G gr,yi 0])∧Below w1.heap.size w1 w')→(∀vo vc w1,Below w.heap.size w w1→Rd w1 .u32 (.slice vo (Dg.dg 4294967296 m).length vc) (Dg.dg 4294967296 m)→Calls Tryz.prog 51 #[ypV ng (.slice vo (Dg.dg 4294967296 m).length vc) p false false false,ygV R D L G gr] w1 fun z w'=> ∃v,z= .returned (.tuple #[ydV x.s v x.e,yi 0])∧Rd w' .u32 v (Dg.dg 4294967296 x.n)∧Below w1.heap.size w1 w')→(∀xo xc w1,Below w.heap.size w w1→Rd w1 .u32 (.slice xo (Dg.dg 4294967296 x.n).length xc) (Dg.dg 4294967296 x.n)→Calls Tryz.prog 52 #[yDV x xo xc,ygV R D L G gr] w1 fun z w'=>z= .returned (.tuple #[.bool true,yi 0])∧Below w1.heap.size w1 w')→X):X:=by
 rcases hr with⟨h1,h2⟩| ⟨k,c,g,m0,p0,hk,rfl,h0,he,hs⟩
 ·exact H1 h1 h2
 have sm: ∀x,Dg.Small 4294967296 (Dg.dg 4294967296 x):=fun x=>Dg.small_dg _ _ (by omega)
 obtain⟨e1,e2,e3,-,-,e6,-⟩:=enc_dec hk (sm m0) he;obtain⟨a1,a2⟩:=enc_again hk (sm m0) he _ hs.symm;rw[←hs] at e1 e2 e3 e6;have hp:=patC_ok hk e1;have dC:((decC (k:Int) r.1:Nat):Int)=c:=by unfold decC;rw[if_pos hp,Int.toNat_natCast];exact e2
 have dG:decG (k:Int) r.1=g:=by unfold decG;rw[if_pos hp,Int.toNat_natCast];exact e3
 have dM:decM (k:Int) r.1=valM k (fldN k r.1) (fldE k r.1) (fldF k r.1):=by unfold decM;rw[if_pos hp,Int.toNat_natCast]
 have dP:decP (k:Int) r.1=valP k (fldN k r.1) (fldE k r.1) (fldF k r.1):=by unfold decP;rw[if_pos hp,Int.toNat_natCast]
 generalize valM k (fldN k r.1) (fldE k r.1) (fldF k r.1)=m at a1 a2 dM;generalize valP k (fldN k r.1) (fldE k r.1) (fldF k r.1)=p at a1 a2 dP;have HD: ∀w1,Below w.heap.size w w1→Calls Tryz.prog 43 #[yi (k:Int),.string r.1] w1 (DecRes w1 c g m p 0):=fun w1 _=>by
  have:=decode_any (k:Int) r.1 w1;rw[dC,dG,dM,dP,hp] at this;exact this
 have HE:=fun vo vc w1 (b:Below w.heap.size w w1) h=>by
  have:=encode_any (k:Int) c g vo vc (Dg.dg 4294967296 m) p w1 h (sm m) (hT.later b);rw[a1,a2] at this;exact this
 have HG:=fun w1 (_:Below w.heap.size w w1)=>cgrid_flat k hk w1
 by_cases c2:c=2
 ·subst c2
  have hf:famC (k:Int)≠0:=by rcases fam_cases hk with h|h|h<;>omega
  have hc:chk (Dg.dg 4294967296 m)=0:=by
   unfold encE at a1;rw[if_neg (by omega)] at a1
   by_cases q:chk (Dg.dg 4294967296 m)=0
   ·exact q
   ·rw[if_pos q] at a1
    exact absurd a1 q
  rw[(two_is hk hc).1] at a1;obtain⟨hp2,hh,hdc⟩:=enE_parts hk (sm m) hc a1;obtain⟨-,-,-,-,-,-,lg,-,-,-,-,hg⟩:=fmt_fit hk;have hv:=Dg.vl_dg 4294967296 m (by omega);rw[hv] at hh hdc;refine H3 (bare ⟨g,m,(widthN (rdN k:Int):Int)*p⟩) p _ _ _ _ _ g m h0 HD HE HG (fun vo vc w1 b h=> ?_) (fun xo xc w1 b h=> ?_)
  ·have hN:=gNumber_any (rdN k:Int) (dgN k:Int) (lsI k) (gsI k) (decide (k≤3)) g vo vc (Dg.dg 4294967296 m) p false false false w1 h (sm m) (hT.later b)
   have hpc:placeC (Dg.dg 4294967296 m) p (rdN k:Int) (dgN k:Int) (lsI k) (gsI k)=0:=placeC_fine hc hg (by unfold farB;simp;omega);have hsh:dbothR (placeC (Dg.dg 4294967296 m) p (rdN k:Int) (dgN k:Int) (lsI k) (gsI k)) ⟨g,Dg.vl 4294967296 (Dg.dg 4294967296 m),(widthN (rdN k:Int):Int)*p⟩=(bare ⟨g,m,(widthN (rdN k:Int):Int)*p⟩,0):=by
    obtain⟨c1,c2,c3⟩:=dchk_zero hdc;unfold dbothR shortT;rw[if_pos hpc,hv,if_neg (by have:=(chk_zero c1).2;omega),if_neg (by omega)]
   rw[hsh] at hN;exact hN.mono (fun z w' h=>by
    obtain⟨v,hz,own,b2⟩:=h;exact⟨v,hz,own.rd,b2⟩)
  ·have hH:=gHolds_any (rdN k:Int) (dgN k:Int) (lsI k) (gsI k) (decide (k≤3)) (bare ⟨g,m,(widthN (rdN k:Int):Int)*p⟩).s xo xc (Dg.dg 4294967296 (bare ⟨g,m,(widthN (rdN k:Int):Int)*p⟩).n) (bare ⟨g,m,(widthN (rdN k:Int):Int)*p⟩).e w1 h (sm _) (hT.later b)
   have ho:onC (dchk (Dg.dg 4294967296 (bare ⟨g,m,(widthN (rdN k:Int):Int)*p⟩).n) (bare ⟨g,m,(widthN (rdN k:Int):Int)*p⟩).e) (gridC (rdN k:Int) (dgN k:Int) (lsI k) (gsI k))=0:=by
    unfold onC;rw[if_pos hdc,hg]
   have ha:ansH (Dg.dg 4294967296 (bare ⟨g,m,(widthN (rdN k:Int):Int)*p⟩).n) (bare ⟨g,m,(widthN (rdN k:Int):Int)*p⟩).e (rdN k:Int) (dgN k:Int) (lsI k) (gsI k) (decide (k≤3))=true:=by
    unfold ansH;rw[if_pos ho,Dg.vl_dg _ _ (by omega)];exact hh
   rw[ha,ho] at hH;exact hH
 ·exact H2 c p _ _ _ _ _ g m (by simpa using c2) h0 HD HE HG
theorem topGrid_walk (n:Int) (a b c:ByteArray) (way wh:Int) (w:World) (hT:Tab w) (h1: -9223372036854775808≤wh) (h2:wh≤9223372036854775807):Calls Tryz.prog 16 #[yi n,.string a,.string b,.string c,yi way,yi wh] w fun z w'=>z= .returned (.bool true)∧Below w.heap.size w w':=by
 have HB:=fun w1 (b:Below w.heap.size w w1)=>arithBegun_any w1 (hT.later b)
 have HB2:=fun w1 (_:Below w.heap.size w w1)=>gbegun_any w1
 have HB3:=fun w1 (_:Below w.heap.size w w1)=>codecBegun_any w1
 obtain⟨d,hd,HX⟩:=choose6_any wh w h1 h2;have hd':d=0∨d=1∨d=2∨d=3∨d=4∨d=5:=by omega
 rcases hd' with rfl|rfl|rfl|rfl|rfl|rfl
 ·have HA:=fun w1 (b1:Below w.heap.size w w1)=>add_any n way a b w1 (hT.later b1)
  refine top_pay n (recT n way [a,b] (addF n way a b)) (recT_enc _ _ _ _) w hT _ (fun e1 e2=> ?_) (fun _ _ _ _ _ _ _ _ _ hc h0 HD HE HG=> ?_) (fun _ _ _ _ _ _ _ _ _ h0 HD HE HG HN HH=> ?_)
  ·unfold ans3 at HA
   rw[e2] at HA;exact top0_err n way wh _ _ a b c w (by simpa using e1) HB HB2 HB3 HX HA
  ·unfold ans3 at HA
   rw[h0] at HA;exact top0_oth _ n way wh _ _ _ _ _ _ _ _ _ a b c _ w hc HB HB2 HB3 HX HA HD HE HG
  ·unfold ans3 at HA
   rw[h0] at HA;exact top0_num _ n way wh _ _ _ _ _ _ _ _ _ a b c _ w HB HB2 HB3 HX HA HD HE HG HN HH
 ·have HA:=fun w1 (b1:Below w.heap.size w w1)=>sub_any n way a b w1 (hT.later b1)
  refine top_pay n (recT n way [a,b] (subF n way a b)) (recT_enc _ _ _ _) w hT _ (fun e1 e2=> ?_) (fun _ _ _ _ _ _ _ _ _ hc h0 HD HE HG=> ?_) (fun _ _ _ _ _ _ _ _ _ h0 HD HE HG HN HH=> ?_)
  ·unfold ans3 at HA
   rw[e2] at HA;exact top1_err n way wh _ _ a b c w (by simpa using e1) HB HB2 HB3 HX HA
  ·unfold ans3 at HA
   rw[h0] at HA;exact top1_oth _ n way wh _ _ _ _ _ _ _ _ _ a b c _ w hc HB HB2 HB3 HX HA HD HE HG
  ·unfold ans3 at HA
   rw[h0] at HA;exact top1_num _ n way wh _ _ _ _ _ _ _ _ _ a b c _ w HB HB2 HB3 HX HA HD HE HG HN HH
 ·have HA:=fun w1 (b1:Below w.heap.size w w1)=>mul_any n way a b w1 (hT.later b1)
  refine top_pay n (recT n way [a,b] (mulF n a b)) (recT_enc _ _ _ _) w hT _ (fun e1 e2=> ?_) (fun _ _ _ _ _ _ _ _ _ hc h0 HD HE HG=> ?_) (fun _ _ _ _ _ _ _ _ _ h0 HD HE HG HN HH=> ?_)
  ·unfold ans3 at HA
   rw[e2] at HA;exact top2_err n way wh _ _ a b c w (by simpa using e1) HB HB2 HB3 HX HA
  ·unfold ans3 at HA
   rw[h0] at HA;exact top2_oth _ n way wh _ _ _ _ _ _ _ _ _ a b c _ w hc HB HB2 HB3 HX HA HD HE HG
  ·unfold ans3 at HA
   rw[h0] at HA;exact top2_num _ n way wh _ _ _ _ _ _ _ _ _ a b c _ w HB HB2 HB3 HX HA HD HE HG HN HH
 ·have HA:=fun w1 (b1:Below w.heap.size w w1)=>div_any n way a b w1 (hT.later b1)
  refine top_pay n (recT n way [a,b] (divF n a b)) (recT_enc _ _ _ _) w hT _ (fun e1 e2=> ?_) (fun _ _ _ _ _ _ _ _ _ hc h0 HD HE HG=> ?_) (fun _ _ _ _ _ _ _ _ _ h0 HD HE HG HN HH=> ?_)
  ·unfold ans3 at HA
   rw[e2] at HA;exact top3_err n way wh _ _ a b c w (by simpa using e1) HB HB2 HB3 HX HA
  ·unfold ans3 at HA
   rw[h0] at HA;exact top3_oth _ n way wh _ _ _ _ _ _ _ _ _ a b c _ w hc HB HB2 HB3 HX HA HD HE HG
  ·unfold ans3 at HA
   rw[h0] at HA;exact top3_num _ n way wh _ _ _ _ _ _ _ _ _ a b c _ w HB HB2 HB3 HX HA HD HE HG HN HH
 ·have HA:=fun w1 (b1:Below w.heap.size w w1)=>fused_any n way a b c w1 (hT.later b1)
  refine top_pay n (recT n way [a,b,c] (fusF n way a b c)) (recT_enc _ _ _ _) w hT _ (fun e1 e2=> ?_) (fun _ _ _ _ _ _ _ _ _ hc h0 HD HE HG=> ?_) (fun _ _ _ _ _ _ _ _ _ h0 HD HE HG HN HH=> ?_)
  ·unfold ans3 at HA
   rw[e2] at HA;exact top4_err n way wh _ _ a b c w (by simpa using e1) HB HB2 HB3 HX HA
  ·unfold ans3 at HA
   rw[h0] at HA;exact top4_oth _ n way wh _ _ _ _ _ _ _ _ _ a b c _ w hc HB HB2 HB3 HX HA HD HE HG
  ·unfold ans3 at HA
   rw[h0] at HA;exact top4_num _ n way wh _ _ _ _ _ _ _ _ _ a b c _ w HB HB2 HB3 HX HA HD HE HG HN HH
 ·have HA:=fun w1 (b1:Below w.heap.size w w1)=>sqrt_any n way a w1 (hT.later b1)
  refine top_pay n (recT n way [a] (sqrF n a)) (recT_enc _ _ _ _) w hT _ (fun e1 e2=> ?_) (fun _ _ _ _ _ _ _ _ _ hc h0 HD HE HG=> ?_) (fun _ _ _ _ _ _ _ _ _ h0 HD HE HG HN HH=> ?_)
  ·unfold ans3 at HA
   rw[e2] at HA;exact top5_err n way wh _ _ a b c w (by simpa using e1) HB HB2 HB3 HX HA
  ·unfold ans3 at HA
   rw[h0] at HA;exact top5_oth _ n way wh _ _ _ _ _ _ _ _ _ a b c _ w hc HB HB2 HB3 HX HA HD HE HG
  ·unfold ans3 at HA
   rw[h0] at HA;exact top5_num _ n way wh _ _ _ _ _ _ _ _ _ a b c _ w HB HB2 HB3 HX HA HD HE HG HN HH
end Go.Proofs.YtnhackdjplppjaaGreatDoor

/-
  The whole: TopPrinted, paid.
-/
import Derived.Test.YtlgkfdcmokchgaaGreatDoorTo1
import Derived.Test.YtlgkfdcmokchgaaGreatDoorUt39
namespace Go.Proofs.YtlgkfdcmokchgaaGreatDoor
open Go.RowKit
theorem topPrinted_walk (n:Int)(s:ByteArray)(j:Int)(w:World)(hT:TxW w):yC 4 #[yi n,.string s,yi j] w (yR w (.bool true)):=by
 have HB:=fun w1 (h:yB w w1)=>textBegun_any w1 (hT.l h)
 have HX:=fun w1 (h:yB w w1)=>convBegun_any w1 (hT.l h).1
 have HS:=fun w1 (h:yB w w1)=>tShortest_any n s w1 (hT.l h)
 by_cases hf:dK n=0∨dK j=0
 ·exact topp_1 false 6 _ _ n j s w (by decide) HB HX (fun w1 _=>exact_err n j hf w1) HS
 have fn:dK n≠0:=fun c=>hf (.inl c)
 have fj:dK j≠0:=fun c=>hf (.inr c)
 obtain⟨k1,k2,k3⟩:=fF fn;obtain⟨k,rfl⟩: ∃i:Nat,n=(i:Int):=⟨n.toNat,k3.symm⟩;obtain⟨j1,j2,j3⟩:=fF fj;obtain⟨j,rfl⟩: ∃i:Nat,j=(i:Int):=⟨j.toNat,j3.symm⟩;rw[Int.toNat_natCast] at k1 k2 j1 j2;have hk:1≤k∧k≤8:=⟨k1,k2⟩;have hj:1≤j∧j≤8:=⟨j1,j2⟩;have HE:=fun w1 (b:yB w w1)=>exact_any k j hk hj w1 (hT.l b).1
 by_cases h0:(shV (k:Int) s).2=0
 rotate_left
 ·exact topp_2 _ _ _ (k:Int) (j:Int) s w h0 HB HX HE HS
 have hp:=shV_pat h0;rw[h0] at HS
 cases hx:exB k j
 ·rw[hx] at HE
  exact topp_3 _ (k:Int) (j:Int) s w HB HX HE HS
 rw[hx] at HE;have HC:=fun w1=>vF (k:Int) s w1 hp
 by_cases hc:((bM (k:Int) s:Nat):Int)=2
 rotate_left
 ·exact topp_4 _ _ (k:Int) (j:Int) s w hc HB HX HE HS HC
 rw[hc] at HC;have hc2:bM (k:Int) s=2:=by omega
 obtain⟨he,hM,hV,-,-,hm,-⟩:=sh_facts hk h0 hc2;obtain⟨m1,m2,m3,m4,m5⟩:=sh_dec hk hp hc2 he hM.symm;obtain⟨sx,x0,hbb,hh,hback⟩:=num_back hk hp hc2 he;have HD: ∀w1,yB w w1→yC 20 #[yi (k:Int),.string s] w1 (eP w1 2 (dz (k:Int) s) (gJ (k:Int) s) (iF (k:Int) s) 0):=fun w1 _=>by
  have:=fR (k:Int) s w1
  rwa [hp,hc] at this
 have HF: ∀w1,yB w w1→yC 20 #[yi (k:Int),.string (shM (k:Int) s)] w1 (eP w1 2 (dz (k:Int) s) (gJ (k:Int) s) (iF (k:Int) s) 0):=fun w1 _=>by
  have:=fR (k:Int) (shM (k:Int) s) w1
  rwa [m1,m2,m3,m4,m5] at this
 have HP:yH w 14 #[yi (k:Int),.string (shV (k:Int) s).1,yi 1] (.tuple #[.string (shM (k:Int) s),yi (psV (k:Int) (ptS (k:Int) s (shK (k:Int) s)) 1).2.1,yi 0]):=fun w1 b=>by
  have:=tParse_any (k:Int) (ptS (k:Int) s (shK (k:Int) s)) 1 w1 (hT.l b);rw[hV];rw[mk_ps hm] at this;exact this
 have hw1:(1:Int)≤1∧(1:Int)≤5:=⟨by decide,by decide⟩;have ho:opT (k:Int) (shM (k:Int) s)=opT (k:Int) s:=by
  have a:=(G5 hk m1 m2).2.2;have b:=(G5 hk hp hc2).2.2;rw[m3,m4,m5] at a;exact a.symm.trans b
 obtain⟨q1,q2,q3,q4,q5⟩:=cv_held hj hw1 (dz (k:Int) s) sx x0 (exact_holds hk hj hx _ _ hh);have HQ:yH w 19 #[yi (k:Int),.string (shM (k:Int) s),yi (j:Int),yi 1] (.tuple #[.string (cvT j 1 2 (dz (k:Int) s) (opT (k:Int) s)).1,yi 0,yi 0]):=fun w1 b=>by
  have:=convertA (k:Int) (shM (k:Int) s) (j:Int) 1 w1 (hT.l b).1;unfold cvA mM at this;rw[if_neg fj,if_neg (fun c=>c m1),if_pos hw1,Int.toNat_natCast,m2,m3,ho] at this
  rw[show(((2:Nat):Int))=2 from rfl,q1] at this
  exact this
 have HR:yH w 19 #[yi (j:Int),.string (cvT j 1 2 (dz (k:Int) s) (opT (k:Int) s)).1,yi (k:Int),yi 1] (.tuple #[.string (shM (k:Int) s),yi 0,yi 0]):=fun w1 b=>by
  have:=convertA (j:Int) (cvT j 1 2 (dz (k:Int) s) (opT (k:Int) s)).1 (k:Int) 1 w1 (hT.l b).1;unfold cvA mM at this;rw[if_neg fn,if_neg (fun c=>c q2),if_pos hw1,Int.toNat_natCast,q3,q5,hbb,hback 1 hw1,←hM] at this
  exact this
 exact topp_5 _ _ _ _ _ _ _ (k:Int) (j:Int) s w HB HX HE HS HC HP HQ HR HD HF (fun ao ac bo bc w1 _ ra rb=>iO 2 (iF (k:Int) s) (dz (k:Int) s) ao bo _ ac bc w1 ra rb)
end Go.Proofs.YtlgkfdcmokchgaaGreatDoor

/-
  ConvBack and ConvThrough, paid.
-/
import Derived.Test.YtddkchlamdhgcaaGreatDoorSu45
namespace Go.Proofs.YtddkchlamdhgcaaGreatDoor
open Go.RowKit
def cvA (n:Int)(s:ByteArray)(k way:Int):ByteArray×Int×Int:=
 if dK k=0 then(⟨#[]⟩,0,6) else if dF n s≠0 then(⟨#[]⟩,0,dF n s) else if 1≤way∧way≤5 then cvT k.toNat way ((bM n s:Nat):Int) (dz n s) (opT n s) else(⟨#[]⟩,0,6)
theorem convertA (n:Int)(s:ByteArray)(k way:Int)(w:World)(hT:Tab w):yC 26 #[yi n,.string s,yi k,yi way] w (mM (cvA n s k way) w):=by
 unfold cvA
 by_cases fk:dK k=0
 ·rw[if_pos fk]
  exact convert_none n k way s w (fun w2=>by
   have:=fam_any k w2;rw[fk] at this;exact this)
 rw[if_neg fk];have hf0:(dK k==0)=false:=by simpa using fk
 have HF:=fun w1=>fam_any k w1
 by_cases hp:dF n s=0
 rotate_left
 ·rw[if_pos hp]
  exact convert_err _ _ _ _ _ _ _ n k way s w hf0 hp HF (fun w2 b2=>(convread_any n s way w2 (hT.l b2)).1 hp)
 rw[if_neg (fun c=>c hp)]
 by_cases hw:1≤way∧way≤5
 rotate_left
 ·rw[if_neg hw]
  exact convert_err _ _ _ _ _ _ _ n k way s w hf0 (show¬(6:Int)=0 by decide) HF (fun w2 b2=>(convread_any n s way w2 (hT.l b2)).2.1 hp hw)
 rw[if_pos hw];obtain⟨k1,k2,k3⟩:=fF fk;obtain⟨k,rfl⟩: ∃j:Nat,k=(j:Int):=⟨k.toNat,k3.symm⟩;rw[Int.toNat_natCast] at k1 k2⊢;exact convert_any n s k ⟨k1,k2⟩ way w hT hp hw
theorem cvA_zero {n:Int}{s:ByteArray}{k way:Int}(h:(cvA n s k way).2.2=0):dK k≠0∧dF n s=0∧(1≤way∧way≤5)∧cvA n s k way=cvT k.toNat way ((bM n s:Nat):Int) (dz n s) (opT n s):=by
 unfold cvA at h⊢
 by_cases fk:dK k=0
 ·rw[if_pos fk] at h
  exact absurd h (by decide)
 rw[if_neg fk] at h⊢
 by_cases hp:dF n s=0
 rotate_left
 ·rw[if_pos hp] at h
  exact absurd h hp
 rw[if_neg (fun c=>c hp)] at h⊢
 by_cases hw:1≤way∧way≤5
 ·rw[if_pos hw]
  exact⟨fk,hp,hw,rfl⟩
 ·rw[if_neg hw] at h
  exact absurd h (by decide)
theorem held_set {k:Nat}(hk:1≤k∧k≤8)(way:Int)(t:ak)(h0:t.n≠0)(hh:dA (rdN k) (dgN k) (lsI k) (gsI k) (decide (k≤3)) t.n t.e=true):
  ∃d p,pG k way (fY k way t)=(2,t.s,d,p,0)∧gI k 2 t.s (Dg.dg 4294967296 d) p=0∧bare ⟨t.s,d,(ai (rdN k):Int)*p⟩=bare t:=by
 obtain⟨-,-,d1,-,-,-,lg,-,w64,-,-,hg⟩:=eR hk;have hD:(1:Int)≤(dgN k:Int):=by omega
 obtain⟨o1,o2,o3⟩:=mC (s:=t.s) (way:=way) hD lg h0 hh;obtain⟨q1,q2,q3,q4⟩:=oj (s:=t.s) (way:=way) hD lg h0 hh;obtain⟨ex,hL⟩:=RK (s:=t.s) (way:=way) hD lg h0 hh;have hsp:ia (rdN k) (dgN k) (lsI k) (gsI k) (decide (k≤3)) (fY k way t).d (fY k way t).p:=nW hD lg h0 (by omega) o1 o2;obtain⟨l15,p1,p2,-,-,-⟩:=qj hg hsp;have hd:(fY k way t).d≠0:=fun c=>q4 (q2.symm.trans c)
 have hs:(fY k way t).s=t.s:=q1;have hcd:chk (Dg.dg 4294967296 (fY k way t).d)=0:=pJ (Dg.norm_dg _ _ (by omega)) (by omega);have hl0:(Dg.dg 4294967296 (fY k way t).d).length≠0:=fun c=>hd ((Dg.dg_nil_iff 4294967296 _ (by omega)).1 (List.length_eq_zero_iff.1 c))
 have hv:=Dg.vl_dg 4294967296 (fY k way t).d (by omega);have hb2:bare ⟨t.s,(fY k way t).d,(ai (rdN k):Int)*(fY k way t).p⟩=bare t:=by
  have:=o3;rw[q1] at this;exact this
 refine⟨(fY k way t).d,(fY k way t).p, ?_, ?_,hb2⟩
 ·unfold pG
  rw[if_neg (fun c=>by rw[show(fY k way t).ov=false from o1] at c;cases c),if_neg (fun c=>by have:=c.2;rw[show(fY k way t).p=cP (rdN k) (dgN k) (lsI k) (decide (k≤3)) t.n t.e from q3] at this;omega),if_neg hd,if_pos (show(fY k way t).ex=true from ex),hs]
 ·rw[(xH hk hcd).1,mY hk hcd hl0 (by omega),hv,hb2,jK _ _ lg,hh,if_pos rfl]
theorem cv_held {j:Nat}(hj:1≤j∧j≤8){way:Int}(hw:1≤way∧way≤5)(g:Bool){x:ak}(sx:iZ x)(h0:x.n≠0)(hh:dA (rdN j) (dgN j) (lsI j) (gsI j) (decide (j≤3)) x.n x.e=true):
  (cvT j way 2 g x).2=(0,0)∧dF j (cvT j way 2 g x).1=0∧((bM j (cvT j way 2 g x).1:Nat):Int)=2∧dz j (cvT j way 2 g x).1=x.s∧opT j (cvT j way 2 g x).1=bare x:=by
 obtain⟨d,p,e1,e2,e3⟩:=held_set hj way x h0 hh;have e:cvT j way 2 g x=Dw j 2 x.s d p 0:=by
  unfold cvT;rw[if_pos rfl,fit_num hj hw sx h0,e1]
 have hz:Dw j 2 x.s d p 0=(fq j 2 x.s (Dg.dg 4294967296 d) p,0,0):=if_pos e2;obtain⟨k1,k2,k3,k4⟩:=dec_of hj (c:=2) (g:=x.s) (m:=d) (p:=p) (fl:=0) (by rw[hz]);rw[e];refine⟨by rw[hz],k1,k2,k3, ?_⟩;rw[k4,if_pos rfl,e3]
theorem num_back {k:Nat}(hk:1≤k∧k≤8){s:ByteArray}(hp:dF k s=0)(hc:bM k s=2)(he:gI k 2 (dz k s) (Dg.dg 4294967296 (gJ k s)) (iF k s)=0):
  iZ (opT k s)∧(opT k s).n≠0∧bare (opT k s)=opT k s∧dA (rdN k) (dgN k) (lsI k) (gsI k) (decide (k≤3)) (opT k s).n (opT k s).e=true∧
   ∀way,1≤way∧way≤5→ ∀g,cvT k way 2 g (opT k s)=(fq k 2 (dz k s) (Dg.dg 4294967296 (gJ k s)) (iF k s),0,0):=by
 obtain⟨sx,-,n2⟩:=ir hk hp;obtain⟨h0,hs,hb⟩:=G5 hk hp hc;have hM:chk (Dg.dg 4294967296 (gJ k s))=0:=by
  have:=(oJ hk (Dg.small_dg _ _ (by omega)) he).2.2.2.2.2.1 rfl;exact this.1
 have hE:=he;rw[(xH hk hM).1] at hE;obtain⟨-,hh,-⟩:=Jo hk (Dg.small_dg _ _ (by omega)) hM hE;rw[Dg.vl_dg _ _ (by omega),hb] at hh;have hbb:bare (opT k s)=opT k s:=by rw[←hb,iH]
 refine⟨sx,h0,hbb,hh,fun way hw g=> ?_⟩
 have ha:=OC hk way g (opT k s) 0 h0 hh (Dg.small_dg _ _ (by omega)) hM (by rw[hs];exact hE) (by rw[hs,Dg.vl_dg _ _ (by omega),hb,hbb]);unfold m8 at ha;rw[if_pos rfl,or_set] at ha;unfold cvT;rw[if_pos rfl,fit_num hk hw sx h0,ha,hs];rfl
theorem convBack_walk (n:Int)(s:ByteArray)(j way:Int)(w:World)(hT:Tab w):yC 5 #[yi n,.string s,yi j,yi way] w (yR w (.bool true)):=by
 have HB:=fun w1 (b:yB w w1)=>convBegun_any w1 (hT.l b)
 have HC:=fun w1 (b:yB w w1)=>convertA n s j way w1 (hT.l b)
 by_cases hf:dK n=0∨dK j=0
 ·exact cback_1 n j way 6 _ _ s _ _ w (by decide) HB (fun w1 _=>exact_err n j hf w1) HC
 have fn:dK n≠0:=fun c=>hf (.inl c)
 have fj:dK j≠0:=fun c=>hf (.inr c)
 obtain⟨k1,k2,k3⟩:=fF fn;obtain⟨k,rfl⟩: ∃i:Nat,n=(i:Int):=⟨n.toNat,k3.symm⟩;obtain⟨j1,j2,j3⟩:=fF fj;obtain⟨j,rfl⟩: ∃i:Nat,j=(i:Int):=⟨j.toNat,j3.symm⟩;rw[Int.toNat_natCast] at k1 k2 j1 j2;have hk:1≤k∧k≤8:=⟨k1,k2⟩;have hj:1≤j∧j≤8:=⟨j1,j2⟩;have HX:=fun w1 (b:yB w w1)=>exact_any k j hk hj w1 (hT.l b)
 by_cases hz:(cvA (k:Int) s (j:Int) way).2.2=0
 rotate_left
 ·exact cback_2 (k:Int) (j:Int) way _ _ s _ _ w hz HB HX HC
 obtain⟨-,hp,hw,e⟩:=cvA_zero hz;rw[Int.toNat_natCast] at e;unfold mM at HC;rw[hz] at HC
 cases hx:exB k j
 ·rw[hx] at HX
  exact cback_3 (k:Int) (j:Int) way _ s _ w HB HX HC
 rw[hx] at HX;have HK:=fun w1 (_:yB w w1)=>vF (k:Int) s w1 hp
 by_cases hc:((bM (k:Int) s:Nat):Int)=2
 rotate_left
 ·exact cback_4 (k:Int) (j:Int) way _ _ s _ w (by simpa using hc) HB HX HC HK
 have HD:=fun w1=>fR (k:Int) s w1
 rw[hc] at HK;rw[hp,hc] at HD;have HE:=fun vo vc w1 (b:yB w w1) (r:Rd w1 .u32 (.slice vo (Dg.dg 4294967296 (gJ (k:Int) s)).length vc) (Dg.dg 4294967296 (gJ (k:Int) s)))=>jj (k:Int) 2 (dz (k:Int) s) vo vc (Dg.dg 4294967296 (gJ (k:Int) s)) (iF (k:Int) s) w1 r (Dg.small_dg _ _ (by omega)) (hT.l b)
 by_cases he:gI (k:Int) 2 (dz (k:Int) s) (Dg.dg 4294967296 (gJ (k:Int) s)) (iF (k:Int) s)=0
 rotate_left
 ·exact cback_5 (k:Int) (j:Int) way _ _ _ s _ _ _ _ w he HB HX HC HK HD HE
 rw[he] at HE;obtain⟨sx,h0,hbb,hh,hback⟩:=num_back hk hp (by omega) he;obtain⟨q1,q2,q3,q4,q5⟩:=cv_held hj hw (dz (k:Int) s) sx h0 (exact_holds hk hj hx _ _ hh);rw[e,hc] at HC;have HF:=fun w1 (b:yB w w1)=>convertA (j:Int) (cvT j way 2 (dz (k:Int) s) (opT (k:Int) s)).1 (k:Int) way w1 (hT.l b)
 have e2:cvA (j:Int) (cvT j way 2 (dz (k:Int) s) (opT (k:Int) s)).1 (k:Int) way=(fq (k:Int) 2 (dz (k:Int) s) (Dg.dg 4294967296 (gJ (k:Int) s)) (iF (k:Int) s),0,0):=by
  unfold cvA;rw[if_neg fn,if_neg (fun c=>c q2),if_pos hw,Int.toNat_natCast,q3,q5,hbb]
  exact hback way hw _
 rw[e2] at HF;have e3:(cvT j way 2 (dz (k:Int) s) (opT (k:Int) s)).2.1=0:=by rw[q1]
 rw[e3] at HC;exact cback_6 (k:Int) (j:Int) way _ s _ _ _ _ w HB HX HC HK HD HE HF
theorem convThrough_walk (n:Int)(s:ByteArray)(j l way:Int)(w:World)(hT:Tab w):yC 6 #[yi n,.string s,yi j,yi l,yi way] w (yR w (.bool true)):=by
 have HB:=fun w1 (b:yB w w1)=>convBegun_any w1 (hT.l b)
 have HC:=fun w1 (b:yB w w1)=>convertA n s l way w1 (hT.l b)
 have HE1:=fun w1 (b:yB w w1)=>convertA n s j way w1 (hT.l b)
 have HF:=fun w1 (b:yB w w1)=>convertA j (cvA n s j way).1 l way w1 (hT.l b)
 by_cases hf:dK n=0∨dK j=0
 ·exact cthru_1 n j l way 6 _ _ _ _ _ _ s _ _ _ _ w (by decide) HB (fun w1 _=>exact_err n j hf w1) HC HE1 HF
 have fn:dK n≠0:=fun c=>hf (.inl c)
 have fj:dK j≠0:=fun c=>hf (.inr c)
 obtain⟨k1,k2,k3⟩:=fF fn;obtain⟨k,rfl⟩: ∃i:Nat,n=(i:Int):=⟨n.toNat,k3.symm⟩;obtain⟨j1,j2,j3⟩:=fF fj;obtain⟨j,rfl⟩: ∃i:Nat,j=(i:Int):=⟨j.toNat,j3.symm⟩;rw[Int.toNat_natCast] at k1 k2 j1 j2;have hk:1≤k∧k≤8:=⟨k1,k2⟩;have hj:1≤j∧j≤8:=⟨j1,j2⟩;have HX:=fun w1 (b:yB w w1)=>exact_any k j hk hj w1 (hT.l b)
 by_cases hz:(cvA (k:Int) s l way).2.2=0
 rotate_left
 ·exact cthru_2 (k:Int) (j:Int) l way _ _ _ _ _ _ s _ _ _ _ w hz HB HX HC HE1 HF
 unfold mM at HC HE1 HF;rw[hz] at HC
 by_cases hy:(cvA (k:Int) s (j:Int) way).2.2=0
 rotate_left
 ·exact cthru_3 (k:Int) (j:Int) l way _ _ _ _ _ s _ _ _ _ w hy HB HX HC HE1 HF
 rw[hy] at HE1
 by_cases hv:(cvA (j:Int) (cvA (k:Int) s (j:Int) way).1 l way).2.2=0
 rotate_left
 ·exact cthru_4 (k:Int) (j:Int) l way _ _ _ _ s _ _ _ _ w hv HB HX HC HE1 HF
 rw[hv] at HF;obtain⟨fl,hp,hw,ea⟩:=cvA_zero hz;obtain⟨-,-,-,eb⟩:=cvA_zero hy;obtain⟨-,-,-,ec⟩:=cvA_zero hv;rw[Int.toNat_natCast] at eb
 cases hx:exB k j
 ·rw[hx] at HX
  exact cthru_5 (k:Int) (j:Int) l way _ _ _ s _ _ _ w HB HX HC HE1 HF
 rw[hx] at HX;have HK:=fun w1 (_:yB w w1)=>vF (k:Int) s w1 hp
 by_cases hc:((bM (k:Int) s:Nat):Int)=2
 rotate_left
 ·exact cthru_6 (k:Int) (j:Int) l way _ _ _ _ s _ _ _ w (by simpa using hc) HB HX HC HE1 HF HK
 have HD:=fun w1=>fR (k:Int) s w1
 rw[hc] at HK;rw[hp,hc] at HD;have HE:=fun vo vc w1 (b:yB w w1) (r:Rd w1 .u32 (.slice vo (Dg.dg 4294967296 (gJ (k:Int) s)).length vc) (Dg.dg 4294967296 (gJ (k:Int) s)))=>jj (k:Int) 2 (dz (k:Int) s) vo vc (Dg.dg 4294967296 (gJ (k:Int) s)) (iF (k:Int) s) w1 r (Dg.small_dg _ _ (by omega)) (hT.l b)
 by_cases he:gI (k:Int) 2 (dz (k:Int) s) (Dg.dg 4294967296 (gJ (k:Int) s)) (iF (k:Int) s)=0
 rotate_left
 ·exact cthru_7 (k:Int) (j:Int) l way _ _ _ _ _ s _ _ _ _ _ _ w he HB HX HC HE1 HF HK HD HE
 rw[he] at HE;obtain⟨sx,h0,hbb,hh,-⟩:=num_back hk hp (by omega) he;obtain⟨-,q2,q3,q4,q5⟩:=cv_held hj hw (dz (k:Int) s) sx h0 (exact_holds hk hj hx _ _ hh);have e2:cvA (j:Int) (cvA (k:Int) s (j:Int) way).1 l way=cvA (k:Int) s l way:=by
  rw[ec,ea,eb,hc,q3,q5,hbb];unfold cvT;rw[if_pos rfl,if_pos rfl]
 rw[e2] at HF;exact cthru_8 (k:Int) (j:Int) l way _ _ _ s _ _ _ _ _ w HB HX HC HE1 HF HK HD HE
end Go.Proofs.YtddkchlamdhgcaaGreatDoor

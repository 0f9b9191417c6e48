/-
  ConvExacts, paid.
-/
import Derived.Test.YtddkchlamdhgcaaGreatDoorCx1
namespace Go.Proofs.YtddkchlamdhgcaaGreatDoor
open Go.RowKit
def srP (k i:Nat):Int:=[lsI k,gsI k,lsI k+1,-(dgN k:Int)].getD i 0
def srE (k i:Nat):Int:=(ai (rdN k):Int)*srP k i
def srE2 (k i:Nat):Int:=(ai (rdN k):Int)*(srP k i+(dgN k:Int)-1)
def srF (k i:Nat):Int:=if decide (k≤3)=true then srE k i else srE2 k i
def srA (k:Nat):Nat:=2^ (ai (rdN k)*dgN k)-1
def srX (k i q:Nat):ak:=bare ⟨false,srA k/2^q,srE k i⟩
def inB (l:Nat)(t:ak):Bool:=inR (rdN l) (dgN l) (lsI l) (gsI l) (decide (l≤3)) t.n t.e
def srB (k j:Nat):Bool:=(List.range 4).all fun i=>((List.range (ai (rdN k))).all fun q=> !(inB k (srX k i q)&& !inB j (srX k i q)))&& !(inB k ⟨false,1,srF k i⟩&& !inB j ⟨false,1,srF k i⟩)
theorem sr_is {k j:Nat}(hk:1≤k∧k≤8)(hj:1≤j∧j≤8):srB k j=exP k j:=by
 rcases bO hk with rfl|rfl|rfl|rfl|rfl|rfl|rfl|rfl
 all_goals
  rcases bO hj with rfl|rfl|rfl|rfl|rfl|rfl|rfl|rfl
  all_goals kernel_rfl
theorem sr_no {k j:Nat}(hk:1≤k∧k≤8)(hj:1≤j∧j≤8)(hx:exB k j=false)(h:NonE (fun i q=>inB k (srX k i q)) (fun i q=>inB j (srX k i q)) (fun i=>inB k ⟨false,1,srF k i⟩) (fun i=>inB j ⟨false,1,srF k i⟩) (ai (rdN k)) 4):False:=by
 have e:srB k j=true:=by
  unfold srB;refine List.all_eq_true.2 fun i hi=> ?_
  obtain⟨h1,h2⟩:=h i (List.mem_range.1 hi);refine Bool.and_eq_true_iff.2 ⟨List.all_eq_true.2 fun q hq=> ?_, ?_⟩
  ·have:=h1 q (List.mem_range.1 hq)
   simp only at this;rw[this];rfl
  ·simp only at h2
   rw[h2];rfl
 rw[sr_is hk hj,←ex_is hk hj,hx] at e
 cases e
theorem sr_ok {k i q:Nat}(hk:1≤k∧k≤8)(hi:i<4)(hq:q<ai (rdN k)):(srX k i q).n≠0∧(Dg.dg 65536 (srX k i q).n).length≤20000∧ -200000≤(srX k i q).e∧(srX k i q).e≤200000∧(Dg.dg 65536 (srA k/2^q)).length≤100000:=by
 have h:((List.range 4).all fun i=>(List.range (ai (rdN k))).all fun q=>decide ((srX k i q).n≠0∧(Dg.dg 65536 (srX k i q).n).length≤20000∧ -200000≤(srX k i q).e∧(srX k i q).e≤200000∧(Dg.dg 65536 (srA k/2^q)).length≤100000))=true:=by
  rcases bO hk with rfl|rfl|rfl|rfl|rfl|rfl|rfl|rfl<;>kernel_rfl
 exact of_decide_eq_true (List.all_eq_true.1 (List.all_eq_true.1 h i (List.mem_range.2 hi)) q (List.mem_range.2 hq))
theorem sr_in {k i:Nat}(hk:1≤k∧k≤8)(hi:i<4):(-100000≤srE k i∧srE k i≤100000)∧(-100000≤srE2 k i∧srE2 k i≤100000)∧ -100000≤srP k i∧srP k i≤100000:=by
 have h:((List.range 4).all fun i=>decide ((-100000≤srE k i∧srE k i≤100000)∧(-100000≤srE2 k i∧srE2 k i≤100000)∧ -100000≤srP k i∧srP k i≤100000))=true:=by
  rcases bO hk with rfl|rfl|rfl|rfl|rfl|rfl|rfl|rfl<;>kernel_rfl
 exact of_decide_eq_true (List.all_eq_true.1 h i (List.mem_range.2 hi))
theorem in_op {k l:Nat}(hk:1≤k∧k≤8)(hl:1≤l∧l≤8){s:ByteArray}(hp:dF k s=0)(hc:bM k s=2)(v:Value)(w:World)(hv:Rv w v (opT k s)):
  yC 21 #[v,ygV (rdN l) (dgN l) (lsI l) (gsI l) (decide (l≤3))] w (yR w (.bool (dA (rdN l) (dgN l) (lsI l) (gsI l) (decide (l≤3)) (opT k s).n (opT k s).e))):=by
 obtain⟨⟨s1,s2,s3⟩,-,n2⟩:=ir hk hp;obtain⟨-,-,-,-,-,-,lg,-,-,-,-,hg⟩:=eR hl;have hb:=(G5 hk hp hc).2.2;have e:=jK (R:=(rdN l:Int)) (D:=(dgN l:Int)) (decide (l≤3)) (opT k s) lg;rw[show bare (opT k s)=opT k s by rw[←hb,iH]] at e
 rw[←e];have hlen:(Dg.dg 65536 (opT k s).n).length≤20000:=Nat.le_trans (UI (k:=64) (L:=5) (Nat.le_of_lt s1) (by omega)) (by omega);exact Q5 _ _ _ _ _ v _ w hg hv hlen (by omega) (by omega) (n2 hc)
theorem sr_row {w1:World}{q:Nat}{e:Int}(l:au w1 q 3 [yi 1]):Rv w1 (ydV false (.slice (some ⟨q,0,none⟩) 1 1) e) ⟨false,1,e⟩:=⟨_,rfl,rd_one16 (l.c 0 rfl)⟩
theorem convExacts_walk (n j:Int)(s:ByteArray)(w:World)(hT:Tab w):yC 4 #[yi n,yi j,.string s] w (yR w (.bool true)):=by
 have HB:=fun w1 (b:yB w w1)=>convBegun_any w1 (hT.l b)
 by_cases fn:dK n=0
 ·have HF:=fun w1=>oT n w1 fn
  by_cases fj:dK j=0
  ·exact exacts_e1 _ n j _ _ _ _ _ _ _ _ _ _ _ _ _ _ _ _ _ _ s w (fun w1 _=>exact_err n j (.inl fn) w1) HF (fun w1=>oT j w1 fj) HB
  ·obtain⟨j1,j2,j3⟩:=fF fj
   obtain⟨j,rfl⟩: ∃i:Nat,j=(i:Int):=⟨j.toNat,j3.symm⟩;rw[Int.toNat_natCast] at j1 j2;exact exacts_e1 _ n (j:Int) _ _ _ _ _ _ _ _ _ _ _ _ _ _ _ _ _ _ s w (fun w1 _=>exact_err n (j:Int) (.inl fn) w1) HF (fun w1=>sU j ⟨j1,j2⟩ w1) HB
 obtain⟨k1,k2,k3⟩:=fF fn;obtain⟨k,rfl⟩: ∃i:Nat,n=(i:Int):=⟨n.toNat,k3.symm⟩;rw[Int.toNat_natCast] at k1 k2;have hk:1≤k∧k≤8:=⟨k1,k2⟩;have HF:=fun w1=>sU k hk w1
 by_cases fj:dK j=0
 ·exact exacts_e2 (k:Int) j _ _ _ _ _ _ _ _ _ _ _ _ _ _ _ _ _ _ s w (fun w1 _=>exact_err (k:Int) j (.inr fj) w1) HF (fun w1=>oT j w1 fj) HB
 obtain⟨j1,j2,j3⟩:=fF fj;obtain⟨j,rfl⟩: ∃i:Nat,j=(i:Int):=⟨j.toNat,j3.symm⟩;rw[Int.toNat_natCast] at j1 j2;have hj:1≤j∧j≤8:=⟨j1,j2⟩;have HG:=fun w1=>sU j hj w1
 have HX:=fun w1 (b:yB w w1)=>exact_any k j hk hj w1 (hT.l b)
 have HO:=fun w1=>xu (k:Int) s w1
 have HD:dF (k:Int) s=0→ ∀w1,yC 20 #[yi (k:Int),.string s] w1 (JV w1 ((bM (k:Int) s:Nat):Int) (zR k (aZ k s) (aR k s) (aU k s)) (opT (k:Int) s) (Gi (k:Int) s)):=fun hp w1=>by
  have e:opT (k:Int) s=ji k (aZ k s) (aR k s) (aU k s):=by
   unfold opT nxT;rw[if_pos hp,Int.toNat_natCast]
  rw[e];exact mW (k:Int) s w1 hp
 cases hx:exB k j
 ·rw[hx] at HX
  have hwd:1≤ai (rdN k)∧ai (rdN k)≤4∧1≤dgN k∧dgN k≤64∧ai (rdN k)*dgN k≤64∧ -100000≤lsI k∧lsI k≤100000∧2≤2^ (ai (rdN k)*dgN k):=by
   rcases bO hk with rfl|rfl|rfl|rfl|rfl|rfl|rfl|rfl<;>decide
  obtain⟨f1,f2,d1,d2,d3,l1,l2,p2⟩:=hwd;have hg1:=(eR hk).2.2.2.2.2.2.2.2.2.2.2;have hg2:=(eR hj).2.2.2.2.2.2.2.2.2.2.2;have hPW:IntKind.i64.wrap ((ai (rdN k):Int)*(dgN k:Int))=((ai (rdN k)*dgN k:Nat):Int):=by
   rw[Int.natCast_mul];refine IntWalk.i64_in _ ⟨?_, ?_⟩<;>rw[←Int.natCast_mul]<;>omega
  have hL1:IntKind.i64.wrap (lsI k+1)=lsI k+1:=IntWalk.i64_in _ ⟨by omega,by omega⟩;have hND:IntKind.i64.wrap (-(dgN k:Int))= -(dgN k:Int):=IntWalk.i64_in _ ⟨by omega,by omega⟩;have hP: ∀i,i<4→[Value.int .i64 (lsI k),yi (gsI k),yi (lsI k+1),yi (-(dgN k:Int))][i]? =some (yi (srP k i)):=fun i hi=>by
   obtain rfl|rfl|rfl|rfl:i=0∨i=1∨i=2∨i=3:=by omega
   all_goals rfl
  have hE: ∀i,i<4→IntKind.i64.wrap ((ai (rdN k):Int)*srP k i)=srE k i:=fun i hi=>by
   have:=(sr_in hk hi).1;exact IntWalk.i64_in _ ⟨by show _≤srE k i;omega,by show srE k i≤_;omega⟩
  have hE2: ∀i,i<4→IntKind.i64.wrap ((ai (rdN k):Int)*IntKind.i64.wrap (IntKind.i64.wrap (srP k i+(dgN k:Int))-1))=srE2 k i:=fun i hi=>by
   obtain⟨-,h2,h3⟩:=sr_in hk hi;rw[IntWalk.i64_in (srP k i+(dgN k:Int)) ⟨by omega,by omega⟩,IntWalk.i64_in (srP k i+(dgN k:Int)-1) ⟨by omega,by omega⟩];exact IntWalk.i64_in _ ⟨by show _≤srE2 k i;omega,by show srE2 k i≤_;omega⟩
  have HW:=fun w1=>refW_any k hk (dgN k) (lsI k) (gsI k) (decide (k≤3)) w1
  have HP:=fun w1=>vJ (ai (rdN k)*dgN k) (by omega) w1
  have HL: ∀po pc q w1,Rd w1 .i64 (.slice po (Dg.dg 65536 (2^ (ai (rdN k)*dgN k))).length pc) (Dg.dg 65536 (2^ (ai (rdN k)*dgN k)))→au w1 q 3 [yi 1]→yC 23 #[.slice po (Dg.dg 65536 (2^ (ai (rdN k)*dgN k))).length pc,.slice (some ⟨q,0,none⟩) 1 1] w1 (cG w1 (srA k)):=fun po pc q w1 hr hl=>by
   have hlt:2^ (ai (rdN k)*dgN k)<2^65:=Nat.pow_lt_pow_right (by omega) (by omega);have h1:=rd_one16 (hl.c 0 rfl);have:=kI _ _ (Dg.dg 65536 (2^ (ai (rdN k)*dgN k))) [1] w1 hr h1 (Dg.small_dg _ _ (by omega)) (Dg.small_cons.2 ⟨by omega,Dg.small_nil _ (by omega)⟩) (Nat.le_trans (UI (k:=65) (L:=5) (Nat.le_of_lt hlt) (by omega)) (by omega)) (by
    have:(Dg.dg 65536 (2^ (ai (rdN k)*dgN k))).length≠0:=fun c=>by
     have:=(Dg.dg_nil_iff 65536 _ (by omega)).1 (List.length_eq_zero_iff.1 c);omega
    show 1≤_
    omega) (by rw[Dg.vl_dg _ _ (by omega)];show 1+65536*0≤_;omega)
   rw[Dg.vl_dg _ _ (by omega)] at this;exact this
  have HDn: ∀q:Nat,q<ai (rdN k)→ ∀yo yc w1,Rd w1 .i64 (.slice yo (Dg.dg 65536 (srA k)).length yc) (Dg.dg 65536 (srA k))→yC 25 #[.slice yo (Dg.dg 65536 (srA k)).length yc,yi q] w1 (cG w1 (srA k/2^q)):=fun q hq yo yc w1 hr=>by
   have hlen:=(sr_ok (i:=0) (q:=0) hk (by omega) (by omega)).2.2.2.2;rw[Nat.pow_zero,Nat.div_one] at hlen;have:=Ft _ (Dg.dg 65536 (srA k)) q 0 q (2^q) (2^ (16-q)) w1 hr (Dg.small_dg _ _ (by omega)) (by omega) (by omega) (by omega) (by omega) rfl rfl;rw[Dg.vl_dg _ _ (by omega)] at this;exact this
  have HBr: ∀i q:Nat,i<4→q<ai (rdN k)→ ∀mo mc w1,Rd w1 .i64 (.slice mo (Dg.dg 65536 (srA k/2^q)).length mc) (Dg.dg 65536 (srA k/2^q))→yC 24 #[ydV false (.slice mo (Dg.dg 65536 (srA k/2^q)).length mc) (srE k i)] w1 (dr w1 (srX k i q)):=fun i q hi hq mo mc w1 hr=>by
   have h1:=(sr_ok hk hi hq).2.2.2.2;have h2:=(sr_in hk hi).1;exact iJ _ ⟨false,srA k/2^q,srE k i⟩ w1 ⟨_,rfl,hr⟩ h1 (by show _≤srE k i;omega) (by show srE k i≤_;omega)
  have HI:=fun(l:Nat) (hg:bk (rdN l) (dgN l) (lsI l) (gsI l)=0) (i q:Nat) (hi:i<4) (hq:q<ai (rdN k)) xo xc w1 (hr:Rd w1 .i64 (.slice xo (Dg.dg 65536 (srX k i q).n).length xc) (Dg.dg 65536 (srX k i q).n))=>Q5 (rdN l) (dgN l) (lsI l) (gsI l) (decide (l≤3)) (.agg #[.bool (srX k i q).s,.slice xo (Dg.dg 65536 (srX k i q).n).length xc,yi (srX k i q).e]) (srX k i q) w1 hg ⟨_,rfl,hr⟩ (sr_ok hk hi hq).2.1 (sr_ok hk hi hq).2.2.1 (sr_ok hk hi hq).2.2.2.1 (sr_ok hk hi hq).1
  have HK:=fun(l:Nat) (hg:bk (rdN l) (dgN l) (lsI l) (gsI l)=0) (i:Nat) (hi:i<4) q w1 (hl:au w1 q 3 [yi 1])=>Q5 (rdN l) (dgN l) (lsI l) (gsI l) (decide (l≤3)) (ydV false (.slice (some ⟨q,0,none⟩) 1 1) (srF k i)) ⟨false,1,srF k i⟩ w1 hg (sr_row hl) (show(Dg.dg 65536 1).length≤20000 by decide) (by
    obtain⟨h1,h2,-⟩:=sr_in hk hi
    show _≤srF k i
    unfold srF
    split<;>omega) (by
    obtain⟨h1,h2,-⟩:=sr_in hk hi
    show srF k i≤_
    unfold srF
    split<;>omega) Nat.one_ne_zero
  by_cases hp:dF (k:Int) s=0
  ·rw[hp] at HO
   exact exacts_s2 _ _ _ _ (ai (rdN k)) _ (srA k) _ _ _ (srP k) (srE k) (srE2 k) (srF k) (fun q=>srA k/2^q) (srX k) (fun i q=>inB k (srX k i q)) (fun i q=>inB j (srX k i q)) (fun i=>inB k ⟨false,1,srF k i⟩) (fun i=>inB j ⟨false,1,srF k i⟩) (k:Int) (j:Int) _ _ _ _ _ _ _ _ _ _ _ _ _ _ _ _ _ _ s w hPW hL1 hND ⟨f1,f2⟩ hP hE hE2 (fun _ _=>rfl) (sr_no hk hj hx) HX HF HG HB HO (HD hp) HW HP HL HDn HBr (HI k hg1) (HI j hg2) (HK k hg1) (HK j hg2)
  ·exact exacts_s1 (dF (k:Int) s) (ai (rdN k)) _ (srA k) _ _ _ (srP k) (srE k) (srE2 k) (srF k) (fun q=>srA k/2^q) (srX k) (fun i q=>inB k (srX k i q)) (fun i q=>inB j (srX k i q)) (fun i=>inB k ⟨false,1,srF k i⟩) (fun i=>inB j ⟨false,1,srF k i⟩) (k:Int) (j:Int) _ _ _ _ _ _ _ _ _ _ _ _ _ _ _ _ _ _ s w (by simpa using hp) hPW hL1 hND ⟨f1,f2⟩ hP hE hE2 (fun _ _=>rfl) (sr_no hk hj hx) HX HF HG HB HO HW HP HL HDn HBr (HI k hg1) (HI j hg2) (HK k hg1) (HK j hg2)
 ·rw[hx] at HX
  by_cases hp:dF (k:Int) s=0
  rotate_left
  ·exact exacts_t1 _ (k:Int) (j:Int) _ _ _ _ _ _ _ _ _ _ _ _ _ _ _ _ _ _ s w (by simpa using hp) HX HF HG HB HO
  rw[hp] at HO
  by_cases hc:bM (k:Int) s=2
  rotate_left
  ·exact exacts_t2 _ _ _ _ (k:Int) (j:Int) _ _ _ _ _ _ _ _ _ _ _ _ _ _ _ _ _ _ s w (by simpa using(show¬((bM (k:Int) s:Nat):Int)=2 by omega)) HX HF HG HB HO (HD hp)
  have HD2:=HD hp;rw[hc] at HD2;have HI:=fun(l:Nat) (hl:1≤l∧l≤8) xo xc w1 (_:yB w w1) (hr:Rd w1 .i64 (.slice xo (Dg.dg 65536 (opT (k:Int) s).n).length xc) (Dg.dg 65536 (opT (k:Int) s).n))=>in_op hk hl hp hc (.agg #[.bool (opT (k:Int) s).s,.slice xo (Dg.dg 65536 (opT (k:Int) s).n).length xc,yi (opT (k:Int) s).e]) w1 ⟨_,rfl,hr⟩
  have HIk:=HI k hk;have HIj:=HI j hj
  cases hh:dA (rdN k) (dgN k) (lsI k) (gsI k) (decide (k≤3)) (opT (k:Int) s).n (opT (k:Int) s).e
  ·rw[hh] at HIk
   exact exacts_t3 _ _ _ (k:Int) (j:Int) _ _ _ _ _ _ _ _ _ _ _ _ _ _ _ _ _ _ s w HX HF HG HB HO HD2 HIk
  ·rw[hh] at HIk
   rw[exact_holds hk hj hx _ _ hh] at HIj;exact exacts_t4 _ _ _ (k:Int) (j:Int) _ _ _ _ _ _ _ _ _ _ _ _ _ _ _ _ _ _ s w HX HF HG HB HO HD2 HIk HIj
end Go.Proofs.YtddkchlamdhgcaaGreatDoor

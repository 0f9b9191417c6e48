/-
  Texts laid together: Dr1, Aw0, Co9, Gm1, Gm2, Gm3, Tx18, Tx19, Fi2, Fi5, Ref7, Fro.
-/
import Derived.Test.YtpgijbdgljkeeaaGreatDoorUc01
set_option maxRecDepth 100000
set_option maxHeartbeats 6400000
namespace Go.Proofs.YtpgijbdgljkeeaaGreatDoor
open _root_.Go.Proofs.Tryz
open Go.RowKit
def dr (w:World)(t:ak)(e:Ending)(w':World):Prop:= ∃s,e= .returned (ydV t.s s t.e)∧Rd w' .i64 s (Dg.dg 65536 t.n)∧yB w w'
def di (w:World)(t:ak)(e:Ending)(w':World):Prop:= ∃s,e= .returned (ydV t.s s t.e)∧Rd w' .i64 s (Dg.dg 65536 t.n)∧Far w.heap.size s∧yB w w'
theorem di.near {w:World}{t:ak}{e:Ending}{w':World}(h:di w t e w'):dr w t e w':=by
 obtain⟨s,h1,h2,-,h3⟩:=h;exact⟨s,h1,h2,h3⟩
theorem dI (w:World)(ty:TypeId):ZB (w.alloc (.cells (ydA false yN 0) ty)) w.heap.size:=
 ⟨by simp[World.size_alloc],ty,heap_alloc_new _ _⟩
theorem QY (l:List Nat)(k t m:Nat)(hk:k<l.length)(h: ∀j,j<k→l.getD j 0=0)(hd:l.getD k 0=2^t*(2*m+1))(ht:t<16):tz (Dg.vl 65536 l)=16*k+t:=by
 have h1:=Dg.vl_split 65536 l k hk;have h0:Dg.vl 65536 (l.take k)=0:=Dg.vl_zeros 65536 (l.take k) (fun i=>by
  by_cases hi:i<k
  ·have:=h i hi
   simpa[List.getD_eq_getElem?_getD,List.getElem?_take,hi] using this
  ·simp[List.getD_eq_getElem?_getD,List.getElem?_take,hi])
 rw[h0,hd,Nat.zero_add] at h1;obtain⟨u,hu⟩: ∃u,Dg.vl 65536 (l.drop (k+1))=u:=⟨_,rfl⟩;rw[hu] at h1;have e32:(65536:Nat)=2^t*(2*2^ (15-t)):=by
  have:(65536:Nat)=2^ (t+(1+(15-t))):=by rw[show t+(1+(15-t))=16 from by omega]
  rw[this,Nat.pow_add,Nat.pow_add,Nat.pow_one]
 have e1:(2:Nat)^ (16*k)=65536^k:=by rw[Nat.pow_mul]
 refine F8 (m:=m+2^ (15-t)*u) ?_;rw[h1,Nat.pow_add,e1,Nat.mul_assoc]
 congr 1
 generalize 2^ (15-t)=c at*;have e2:65536*u=2^t*(2*(c*u)):=by rw[e32];simp only[Nat.mul_assoc]
 rw[e2,←Nat.mul_add]
 congr 1
 omega
theorem lA (v:Value)(t:ak)(w:World)(hv:Rv w v t)(hL:(Dg.dg 65536 t.n).length≤100000)(he1: -1000000≤t.e)(he2:t.e≤1000000):
  yC 32 #[v] w (di w (bare t)):=by
 obtain⟨s0,rfl,hr⟩:=hv;obtain⟨ao,ca,rfl⟩:=hr.shape;obtain⟨ts,n,e⟩:=t;simp only at hr hL he1 he2⊢
 by_cases hn:n=0
 ·subst hn
  rw[show Dg.dg 65536 0=[] from rfl] at hr⊢
  rw[show bare ⟨ts,0,e⟩=⟨false,0,0⟩ from by unfold bare;rfl]
  go_enter func32,ntmps32
  go_wp2
  go_returns
  exact⟨_,rfl,aN _ _,(fun a n c h=>by cases h),((Below.refl _ _).alloc (Nat.le_refl _) _).alloc (by simp[World.size_alloc]) _⟩
 ·have h0:(((Dg.dg 65536 n).length:Int)==0)=false:=by simp[Dg.dg_nil_iff 65536 n (by omega)];exact hn
  have hsm:=Dg.small_dg 65536 n (by omega);have hnm:=Dg.norm_dg 65536 n (by omega);have hvl:=Dg.vl_dg 65536 n (by omega);have hne:Dg.dg 65536 n≠[]:=by rw[Ne,Dg.dg_nil_iff 65536 n (by omega)];exact hn
  obtain⟨xs,hx⟩: ∃xs,Dg.dg 65536 n=xs:=⟨_,rfl⟩;rw[hx] at hr hL h0 hsm hnm hvl hne⊢;have hlp:0<xs.length:=List.length_pos_iff.2 hne;have HNM:Hid (xs.getD (xs.length-1) 0≠0):=hnm hne;obtain⟨-,-,hcb⟩:=iQ hr;obtain⟨b,off,hao,hcell⟩:=hcb hlp;subst hao;have bA:=aa (af w (.cells (ydA ts (.slice (some ⟨b,off,none⟩) xs.length ca) e) 47)) (af _ (.cells (ydA false yN 0) 47))
  go_enter func32,ntmps32
  go_wp2
  go_loop [3] (fun nv=> ∃k:Nat,k<xs.length∧nv=yi ((16*k:Nat):Int)∧Hid (∀j,j<k→xs.getD j 0=0)) (fun nv=>xs.length-(intOf nv).toNat/16)
  case atStart=>exact⟨0,hlp,rfl,fun j hj=>absurd hj (Nat.not_lt_zero j)⟩
  case round=>
   obtain⟨k,hk,rfl,hzk⟩:=hrel;have hq:((16*k:Nat):Int)/16=(k:Int):=by omega
   have hc:=cell_later bA (hcell k hk);have hl:=hsm k;obtain⟨x,hxx⟩: ∃x,xs.getD k 0=x:=⟨_,rfl⟩;rw[hxx] at hc hl;have HX:Hid (xs.getD k 0=x):=hxx;clear hxx
   by_cases hx0:x=0
   ·subst hx0
    have hk1:k+1<xs.length:=by
     rcases Nat.lt_or_ge (k+1) xs.length with h|h
     ·exact h
     ·exfalso
      have:k=xs.length-1:=by omega
      exact HNM.out (by rw[←this];exact HX.out)
    go_wp2
    go_round
    case rel=>exact⟨k+1,hk1,by go_num,fun j hj=>by
     by_cases e:j=k
     ·rw[e];exact HX.out
     ·exact hzk.out j (by omega)⟩
    case measure=>simp[intOf];omega
   ·have h1:((x:Int)==0)=false:=by simp;exact hx0
    go_wp2
    have bd:Below (((w.alloc (.cells (ydA ts (.slice (some ⟨b,off,none⟩) xs.length ca) e) 47)).alloc (.cells (ydA false yN 0) 47))).heap.size ((w.alloc (.cells (ydA ts (.slice (some ⟨b,off,none⟩) xs.length ca) e) 47)).alloc (.cells (ydA false yN 0) 47)) ((w.alloc (.cells (ydA ts (.slice (some ⟨b,off,none⟩) xs.length ca) e) 47)).alloc (.cells (ydA false yN 0) 47)).drew:=(Below.refl _ _).drew;have l1:=((aA w (.bool ts) (.slice (some ⟨b,off,none⟩) xs.length ca) (yi e) 47).l (af _ (.cells (ydA false yN 0) 47))).l bd;have l2:=(aA (w.alloc (.cells (ydA ts (.slice (some ⟨b,off,none⟩) xs.length ca) e) 47)) (.bool false) yN (yi 0) 47).l bd;have z2:=(dI (w.alloc (.cells (ydA ts (.slice (some ⟨b,off,none⟩) xs.length ca) e) 47)) 47).l bd;rw[World.size_alloc] at l2 z2;have b02:=aa bA bd;clear bd
    go_loop [3,4] (fun nv dv=> ∃j d:Nat,nv=yi (16*(k:Int)+(j:Int))∧dv=yi (d:Int)∧0<d∧d≤x∧Hid (x=2^j*d)∧j≤16) (fun _ dv=>(intOf dv).toNat)
    case atStart=>exact⟨0,x,by simp,rfl,by omega,Nat.le_refl _,by show x=2^0*x;simp,by omega⟩
    case round=>
     obtain⟨j,d,rfl,rfl,hd0,hdx,hxd,hj⟩:=hrel
     by_cases hev:d % 2=0
     ·have e1:((d:Int) % 2==0)=true:=by simp;omega
      have hj2:j+1≤16:=by
       rcases Nat.lt_or_ge j 16 with h|h
       ·exact h
       ·exfalso
        have h2:2^16≤2^j:=Nat.pow_le_pow_right (by omega) h;have h3:2^j*1≤2^j*d:=Nat.mul_le_mul_left _ (by omega);rw[←hxd.out] at h3;omega
      go_wp2
      go_round
      case rel=>exact⟨j+1,d/2,by go_num,by go_num,by omega,by omega,by
       show x=2^ (j+1)*(d/2)
       rw[Nat.pow_succ,Nat.mul_assoc,show 2*(d/2)=d from by omega]
       exact hxd.out,hj2⟩
      case measure=>simp[intOf];omega
     ·have e1:((d:Int) % 2==0)=false:=by simp;omega
      obtain⟨m,hm⟩: ∃m,d=2*m+1:=⟨d/2,by omega⟩;have hj15:j<16:=by
       rcases Nat.lt_or_ge j 16 with h|h
       ·exact h
       ·exfalso
        have h2:2^16≤2^j:=Nat.pow_le_pow_right (by omega) h;have h3:2^j*1≤2^j*d:=Nat.mul_le_mul_left _ (by omega);rw[←hxd.out] at h3;omega
      have htz:=QY xs k j m hk hzk.out (by rw[HX.out,←hm];exact hxd.out) hj15;rw[hvl] at htz;have HB:Hid (bare ⟨ts,n,e⟩=⟨ts,n/2^ (16*k+j),e+(16*(k:Int)+(j:Int))⟩):=by
       show bare ⟨ts,n,e⟩=_
       unfold bare;rw[if_neg hn];simp only[htz];rw[show((16*k+j:Nat):Int)=16*(k:Int)+(j:Int) from by omega]
      have HD:Hid (∀w1,yB w w1→yC 76 #[.slice (some ⟨b,off,none⟩) xs.length ca,yi (16*(k:Int)+(j:Int))] w1 (Si w1 (n/2^ (16*k+j)))):=fun w1 b1=>by
       have:=MD _ xs (16*k+j) k j _ _ w1 (hr.l b1) hsm (by omega) rfl hj15 (by omega) rfl rfl
       rwa [hvl,show((16*k+j:Nat):Int)=16*(k:Int)+(j:Int) from by omega] at this
      obtain⟨q,hqq⟩: ∃q,n/2^ (16*k+j)=q:=⟨_,rfl⟩;rw[hqq] at HB HD;have e5:IntKind.i64.wrap (e+(16*(k:Int)+(j:Int)))=e+(16*(k:Int)+(j:Int)):=IntWalk.i64_in _ ⟨by omega,by omega⟩;obtain⟨-,⟨c0,c1,c2⟩,-⟩:=id l1;have ne3:w.heap.size+1≠w.heap.size:=by omega
      clear hqq htz hm hxd hev
      go_wp2
      go_region_held3 (fun wq=>wq.cell? ⟨w.heap.size,0,none⟩=some (.bool ts)∧wq.cell? ⟨w.heap.size,1,none⟩=some (.slice (some ⟨b,off,none⟩) xs.length ca)∧wq.cell? ⟨w.heap.size,2,none⟩=some (yi e)) (go_keep) (first
       | (go_at_call 76;refine(HD.out _ b02).mono ?_;rintro z w3 ⟨vs,rfl,r3,hF3,b3⟩;have l13:=l1.l b3;have l23:=l2.l b3;have z23:=z2.l b3;have b03:=aa b02 b3;obtain⟨so,sc,hvs⟩:=r3.shape;subst hvs;have HF:Hid (Far w.heap.size (yS so q sc)):=hF3.mono b02.size;clear hF3;obtain⟨-,⟨p0,p1,p2⟩,-⟩:=id l13;obtain⟨hl3,⟨d0,d1,d2⟩,f0,f1,f2⟩:=id l23))
      all_goals go_wp2
      obtain⟨-,⟨g0,g1,g2⟩,-⟩:=aD l23 (.bool ts) (yS so q sc) (yi (e+(16*(k:Int)+(j:Int))));have r7:=z23.rd r3 (Dg.norm_dg _ _ (by omega)) (.bool ts) (yS so q sc) (yi (e+(16*(k:Int)+(j:Int))));have b8:=am b03 (show w.heap.size≤w.heap.size+1 by omega) (.bool ts) (yS so q sc) (yi (e+(16*(k:Int)+(j:Int))))
      refine bodyPost_ret (v:=(ydV ts (yS so q sc) (e+(16*(k:Int)+(j:Int))))) (by simp[results,results32,go_sem,g0,g1,g2]) rfl ?_
      show di w (bare ⟨ts,n,e⟩) _ _
      rw[HB.out];exact⟨_,rfl,r7,HF.out,b8⟩
theorem iJ (v:Value)(t:ak)(w:World)(hv:Rv w v t)(hL:(Dg.dg 65536 t.n).length≤100000)(he1: -1000000≤t.e)(he2:t.e≤1000000):
  yC 32 #[v] w (dr w (bare t)):=
 (lA v t w hv hL he1 he2).mono fun _ _ h=>h.near
def RVF (w:World)(c:Int)(g:Bool)(t:ak)(fl:Int)(z:Ending)(w':World):Prop:=
 ∃s,z= .returned (.tuple #[yoV c g t.s s t.e,yi fl])∧Rd w' .i64 s (Dg.dg 65536 t.n)∧yB w w'
theorem dL {P:Program}{w0 w:World}{n b:Nat}{ty:TypeId}{z0 z1 z2 z3 z4:Value}{d:TypeDesc}(h:au w b ty [z0,z1,z2,z3,z4])(hb:Below n w0 w)(hn:n≤b)(hu:P.underlying ty=some d)(hd:d.isRow=true)(hi:(P.info? ty).map (·.size)=some 5)(v0 v1 v2 v3 v4:Value):
  (loadVar ty ⟨b,0,none⟩).run P (((((w.setCell ⟨b,0,none⟩ v0).setCell ⟨b,1,none⟩ v1).setCell ⟨b,2,none⟩ v2).setCell ⟨b,3,none⟩ v3).setCell ⟨b,4,none⟩ v4)= .ok (.agg #[v0,v1,v2,v3,v4]) (((((w.setCell ⟨b,0,none⟩ v0).setCell ⟨b,1,none⟩ v1).setCell ⟨b,2,none⟩ v2).setCell ⟨b,3,none⟩ v3).setCell ⟨b,4,none⟩ v4)∧Below n w0 (((((w.setCell ⟨b,0,none⟩ v0).setCell ⟨b,1,none⟩ v1).setCell ⟨b,2,none⟩ v2).setCell ⟨b,3,none⟩ v3).setCell ⟨b,4,none⟩ v4)∧But b w (((((w.setCell ⟨b,0,none⟩ v0).setCell ⟨b,1,none⟩ v1).setCell ⟨b,2,none⟩ v2).setCell ⟨b,3,none⟩ v3).setCell ⟨b,4,none⟩ v4):=by
 have cR:au (((((w.setCell ⟨b,0,none⟩ v0).setCell ⟨b,1,none⟩ v1).setCell ⟨b,2,none⟩ v2).setCell ⟨b,3,none⟩ v3).setCell ⟨b,4,none⟩ v4) b ty [v0,v1,v2,v3,v4]:=(((((h.set 0 v0).set 1 v1).set 2 v2).set 3 v3).set 4 v4);have bu:=((((ag w b 0 v0).trans (ag _ b 1 v1)).trans (ag _ b 2 v2)).trans (ag _ b 3 v3)).trans (ag _ b 4 v4);exact⟨run_loadVar_mid (P:=P) _ b 0 ty [v0,v1,v2,v3,v4] _ cR.range hu hd hi,bu.below hb hn,bu⟩
theorem dN {w:World}{b:Nat}{ty:TypeId}{z0 z1 z2 z3 z4:Value}(h:au w b ty [z0,z1,z2,z3,z4]):(w.cell? ⟨b,0,none⟩=some z0∧w.cell? ⟨b,1,none⟩=some z1∧w.cell? ⟨b,2,none⟩=some z2∧w.cell? ⟨b,3,none⟩=some z3∧w.cell? ⟨b,4,none⟩=some z4)∧w.frozen? ⟨b,0,none⟩=false∧w.frozen? ⟨b,1,none⟩=false∧w.frozen? ⟨b,2,none⟩=false∧w.frozen? ⟨b,3,none⟩=false∧w.frozen? ⟨b,4,none⟩=false:=
 ⟨⟨h.c 0 rfl,h.c 1 rfl,h.c 2 rfl,h.c 3 rfl,h.c 4 rfl⟩,h.f 0,h.f 1,h.f 2,h.f 3,h.f 4⟩
theorem kY {w:World}{b:Nat}{ty:TypeId}{vs cs:List Value}(h:au w b ty vs)(o n:Nat)(e:(vs.drop o).take n=cs):w.rangeAt b o cs:=fun j v hj=>by
 subst e;refine h.c (o+j) ?_;rw[List.getElem?_take] at hj
 split at hj
 ·rw[List.getElem?_drop] at hj
  exact hj
 ·cases hj
theorem mu {w:World}{b n:Nat}{ty:TypeId}{v:Value}(h:Rd w .i64 v (Dg.dg 65536 n))(hl:au w b ty (yoL 0 false false yN 0)):wF b v (Dg.dg 65536 n):=
 cq h (Dg.norm_dg _ _ (by omega)) hl (fun x hx n hn=>by simp at hx;rcases hx with rfl|rfl|rfl|rfl|rfl<;>simp;all_goals omega)
def fmN:Nat→Nat
 |1=>1|2=>1|3=>1|4=>2|5=>2|_=>3
theorem Ve (R D:Int)(N M:Nat)(E:Int):
  aT R D (dY N M E)< ((bitLen N:Int)-(bitLen M:Int)+E)/(ai R:Int)-D+2:=by
 unfold aT dY ai
 split<;>split<;>simp<;>omega
theorem Ga (R D L:Int)(gr:Bool)(N M:Nat)(E:Int)(h1:1≤D)(hN:N≠0)(hM:M≠0):ai R*D.toNat<bitLen (cH R D L gr N M E+1)↔cH R D L gr N M E+1=2^ (ai R*D.toNat):=by
 have h:=rP R D L gr N M E h1 hN hM;have h2:=pP (cH R D L gr N M E+1) (ai R*D.toNat);omega
def inR (R D L G:Int)(gr:Bool)(m:Nat)(e:Int):Bool:=
 decide (m=0∨((ai R:Int)*L≤e∧e+(bitLen m:Int)≤(ai R:Int)*(G+D)∧(gr=true∨L≤aT R D (e+(bitLen m:Int)-1))∧(ai R:Int)*max L (aT R D (e+(bitLen m:Int)-1))≤e))
theorem jK {R D L G:Int}(gr:Bool)(t:ak)(hLG:L≤G):inR R D L G gr (bare t).n (bare t).e=dA R D L G gr t.n t.e:=by
 unfold inR dA;refine decide_eq_decide.2 ?_
 by_cases h:t.n=0
 ·have:(bare t).n=0:=by unfold bare;rw[if_pos h]
  simp only[h,this,true_or]
 ·obtain⟨h1,h2,h3⟩:=gN h
  rw[h3];simp only[h1,h,false_or,h2];unfold cP;rw[show t.e+(bitLen t.n:Int)-1=(bitLen t.n:Int)-1+t.e by omega]
  obtain⟨p,hp⟩: ∃p,(bitLen t.n:Int)-1+t.e=p:=⟨_,rfl⟩;rw[show t.e+(bitLen t.n:Int)=p+1 by omega,hp]
  clear h1 h2 h3 h;obtain⟨z,hz⟩: ∃z,t.e+(tz t.n:Int)=z:=⟨_,rfl⟩;rw[hz];have hw:aT R D p=p/(ai R:Int)-(D-1):=rfl;obtain⟨k,hk⟩: ∃k,aT R D p=k:=⟨_,rfl⟩;rw[hk] at hw⊢;clear hp hz hk;unfold ai at*
  cases gr<;>by_cases h16:R=16<;>simp only[h16,if_true,if_false] at hw⊢ <;>by_cases hl:k<L<;>simp[hl]<;>omega
theorem aaN {d j k:Nat}(h1:2^j≤d)(h2:d<2^k):j<bitLen d∧bitLen d≤k:=by
 have a:=pP d j;have b:=bF d k h2;omega
theorem Ep {R D k:Int}{d:Nat}(hD:1≤D)(h1:2^ (ai R*(D-1).toNat)≤d)(h2:d<2^ (ai R*D.toNat)):aT R D ((bitLen d:Int)-1+(ai R:Int)*k)=k:=by
 obtain⟨b1,b2⟩:=aaN h1 h2;unfold aT;obtain⟨b,hb⟩: ∃b,bitLen d=b:=⟨_,rfl⟩;rw[hb] at b1 b2⊢;unfold ai at*
 split at b1<;>simp_all<;>omega
theorem Il {R D k:Int}{d:Nat}(hD:1≤D)(h2:d<2^ (ai R*D.toNat)):aT R D ((bitLen d:Int)-1+(ai R:Int)*k)≤k:=by
 have b2:=bF d _ h2;unfold aT;obtain⟨b,hb⟩: ∃b,bitLen d=b:=⟨_,rfl⟩;rw[hb] at b2⊢;unfold ai at*
 split at b2<;>simp_all<;>omega
theorem Sg {R D L k:Int}{gr:Bool}{d:Nat}(hD:1≤D)(h2:d<2^ (ai R*D.toNat))(hk:L≤k)(hf:2^ (ai R*(D-1).toNat)≤d∨(gr=true∧k=L)):cP R D L gr d ((ai R:Int)*k)=k:=by
 unfold cP
 rcases hf with h1| ⟨rfl,rfl⟩
 ·rw[Ep hD h1 h2,decide_eq_false (by omega)]
  rfl
 ·have h:=Il (k:=k) hD h2
  by_cases c:aT R D ((bitLen d:Int)-1+(ai R:Int)*k)<k
  ·rw[decide_eq_true c]
   rfl
  ·rw[decide_eq_false c]
   show aT R D ((bitLen d:Int)-1+(ai R:Int)*k)=k
   omega
theorem tN {R D L G k:Int}{gr:Bool}{d:Nat}(hD:1≤D)(h2:d<2^ (ai R*D.toNat))(hk:L≤k)(hf:2^ (ai R*(D-1).toNat)≤d∨(gr=true∧k=L))(h0:d≠0):dA R D L G gr d ((ai R:Int)*k)=decide (k≤G):=by
 unfold dA;rw[Sg hD h2 hk hf];refine decide_eq_decide.2 ?_;omega
theorem tO (R D L G:Int)(gr:Bool)(e:Int):dA R D L G gr 0 e=true:=decide_eq_true (.inl rfl)
def RqE (w:World)(ng:Bool)(a b:Nat)(e er:Int)(z:Ending)(w':World):Prop:=
 ∃v u,z= .returned (.tuple #[yrV ng v u e,yi er])∧Rd w' .i64 v (Dg.dg 65536 a)∧Rd w' .i64 u (Dg.dg 65536 b)∧yB w w'
theorem ratioOf_many (tx:ByteArray)(w:World)(h:400<tx.size):
  yC 10 #[.string tx] w (yR w (.tuple #[yrV false yN yN 0,yi 2])):=by
 obtain⟨W3,hW4,q1,b2⟩:=cA w (yrL false yN yN 0) 31;replace hW4:Hid _:=hW4
 go_enter func10,ntmps10
 go_upto_region 1 with fail
 rw[hW4.out];clear hW4;have hf:=afz (P:=Tryz.prog) q1 b2 (by omega) underlying31 rfl (by kernel_rfl) (.bool false) yN yN (yi 0);have HH:Hid (_∧_):=⟨hf.1,hf.2.1⟩;obtain⟨⟨z0,z1,z2,z3⟩,y0,y1,y2,y3⟩:=afB q1;clear hf q1 b2
 go_wp2
 obtain⟨hl,bR⟩:=HH.out;exact bodyPost_ret (aj results10 rfl rfl hl) rfl ⟨rfl,bR⟩
theorem ratioOf_low (ng:Bool)(ds tx:ByteArray)(p:Int)(w:World)(h4:tx.size≤400)(h1:p< -6000)
  (HN:yH w 29 #[.string tx] (.tuple #[.bool ng,.string ds,yi p,.bool true])):
  yC 10 #[.string tx] w (yR w (.tuple #[yrV false yN yN 0,yi 3])):=by
 replace HN:Hid _:=HN;obtain⟨W3,hW4,q1,b2⟩:=cA w (yrL false yN yN 0) 31;replace hW4:Hid _:=hW4
 go_enter func10,ntmps10
 go_upto_region 1 with fail
 rw[hW4.out];clear hW4
 go_wp2_with fail
 refine(HN.out _ b2).mono ?_;rintro zz w5 ⟨rfl,bb6⟩;have q7:=q1.l bb6;have b8:=aa b2 bb6;clear q1 b2 bb6 HN;have hf:=afz (P:=Tryz.prog) q7 b8 (by omega) underlying31 rfl (by kernel_rfl) (.bool false) yN yN (yi 0);have HH:Hid (_∧_):=⟨hf.1,hf.2.1⟩;obtain⟨⟨z0,z1,z2,z3⟩,y0,y1,y2,y3⟩:=afB q7;clear hf q7 b8
 go_wp2
 obtain⟨hl,bR⟩:=HH.out;exact bodyPost_ret (aj results10 rfl rfl hl) rfl ⟨rfl,bR⟩
theorem ratioOf_high (ng:Bool)(ds tx:ByteArray)(p:Int)(w:World)(h4:tx.size≤400)(h1: ¬p< -6000)(h2:6000<p)
  (HN:yH w 29 #[.string tx] (.tuple #[.bool ng,.string ds,yi p,.bool true])):
  yC 10 #[.string tx] w (yR w (.tuple #[yrV false yN yN 0,yi 3])):=by
 replace HN:Hid _:=HN;obtain⟨W3,hW4,q1,b2⟩:=cA w (yrL false yN yN 0) 31;replace hW4:Hid _:=hW4
 go_enter func10,ntmps10
 go_upto_region 1 with fail
 rw[hW4.out];clear hW4
 go_wp2_with fail
 refine(HN.out _ b2).mono ?_;rintro zz w5 ⟨rfl,bb6⟩;have q7:=q1.l bb6;have b8:=aa b2 bb6;clear q1 b2 bb6 HN;have hf:=afz (P:=Tryz.prog) q7 b8 (by omega) underlying31 rfl (by kernel_rfl) (.bool false) yN yN (yi 0);have HH:Hid (_∧_):=⟨hf.1,hf.2.1⟩;obtain⟨⟨z0,z1,z2,z3⟩,y0,y1,y2,y3⟩:=afB q7;clear hf q7 b8
 go_wp2
 obtain⟨hl,bR⟩:=HH.out;exact bodyPost_ret (aj results10 rfl rfl hl) rfl ⟨rfl,bR⟩
theorem aej (n f0 f1 f2 R D L G fam:Int)(gr ok ng:Bool)(w:World)(HF:yJ 14 #[yi n] (.tuple #[yhV f0 f1 f2 R D L G gr fam,.bool ok])):
  yC 16 #[yi n,.bool ng] w (yR w (yoV 1 (ng&&decide (fam=1)) false yN 0)):=by
 replace HF:Hid _:=HF
 cases ng
 ·rw[Bool.false_and]
  have a0:=af w (.cells (yoA 0 false false yN 0) 49);have q0:=ah w (yoL 0 false false yN 0) 49
  go_enter func16,ntmps16
  go_wp2_with fail
  refine(HF.out _).mono ?_;rintro z w1 ⟨rfl,b1⟩;have al:=af w1 (.cells (yhA f0 f1 f2 R D L G gr fam) 42);have d2:=ah w1 (yhL f0 f1 f2 R D L G gr fam) 42;have q2:=(q0.l b1).l al;have b2:=aa (aa a0 b1) al;have hne:w.heap.size≠w1.heap.size:=Nat.ne_of_lt (q0.l b1).lt;clear a0 q0 b1 al HF
  go_upto_region 2 with fail
  generalize w1.alloc (.cells (yhA f0 f1 f2 R D L G gr fam) 42)=W2 at d2 q2 b2⊢;generalize w1.heap.size=PF at d2 hne⊢;have xf:=d2.c 8 rfl;have cR:au (((((W2.setCell ⟨w.heap.size,0,none⟩ (yi 1)).setCell ⟨w.heap.size,1,none⟩ (.bool false)).setCell ⟨w.heap.size,2,none⟩ (.bool false)).setCell ⟨w.heap.size,3,none⟩ yN).setCell ⟨w.heap.size,4,none⟩ (yi 0)) (w.heap.size) 49 (yoL 1 false false yN 0):=(((((q2.set 0 (yi 1)).set 1 (.bool false)).set 2 (.bool false)).set 3 yN).set 4 (yi 0));have bu:=((((ag W2 (w.heap.size) 0 (yi 1)).trans (ag _ (w.heap.size) 1 (.bool false))).trans (ag _ (w.heap.size) 2 (.bool false))).trans (ag _ (w.heap.size) 3 yN)).trans (ag _ (w.heap.size) 4 (yi 0));have bR:=bu.below b2 (by omega);have hl:=run_loadVar_mid (P:=Tryz.prog) _ (w.heap.size) 0 49 (yoL 1 false false yN 0) _ cR.range underlying49 rfl (by kernel_rfl);have HH:Hid (_∧_):=⟨hl,bR⟩;obtain⟨z0,z1,z2,z3,z4⟩:=q2.cs5;have fz0:=q2.f 0;have fz1:=q2.f 1;have fz2:=q2.f 2;have fz3:=q2.f 3;have fz4:=q2.f 4;clear hl bR bu cR;clear q2 b2
  go_wp2
  obtain⟨hl,bR⟩:=HH.out;exact bodyPost_ret (br results16 rfl hl) rfl ⟨rfl,bR⟩
 ·rw[Bool.true_and]
  obtain⟨b,hb⟩: ∃b,(fam==1)=b:=⟨_,rfl⟩;have hd:decide (fam=1)=b:=by rw[←hb];rfl
  rw[hd];clear hd;have a0:=af w (.cells (yoA 0 false false yN 0) 49);have q0:=ah w (yoL 0 false false yN 0) 49
  go_enter func16,ntmps16
  go_wp2_with fail
  refine(HF.out _).mono ?_;rintro z w1 ⟨rfl,b1⟩;have al:=af w1 (.cells (yhA f0 f1 f2 R D L G gr fam) 42);have d2:=ah w1 (yhL f0 f1 f2 R D L G gr fam) 42;have q2:=(q0.l b1).l al;have b2:=aa (aa a0 b1) al;have hne:w.heap.size≠w1.heap.size:=Nat.ne_of_lt (q0.l b1).lt;clear a0 q0 b1 al HF
  go_upto_region 2 with fail
  generalize w1.alloc (.cells (yhA f0 f1 f2 R D L G gr fam) 42)=W2 at d2 q2 b2⊢;generalize w1.heap.size=PF at d2 hne⊢;have xf:=d2.c 8 rfl;have cR:au (((((W2.setCell ⟨w.heap.size,0,none⟩ (yi 1)).setCell ⟨w.heap.size,1,none⟩ (.bool b)).setCell ⟨w.heap.size,2,none⟩ (.bool false)).setCell ⟨w.heap.size,3,none⟩ yN).setCell ⟨w.heap.size,4,none⟩ (yi 0)) (w.heap.size) 49 (yoL 1 b false yN 0):=(((((q2.set 0 (yi 1)).set 1 (.bool b)).set 2 (.bool false)).set 3 yN).set 4 (yi 0));have bu:=((((ag W2 (w.heap.size) 0 (yi 1)).trans (ag _ (w.heap.size) 1 (.bool b))).trans (ag _ (w.heap.size) 2 (.bool false))).trans (ag _ (w.heap.size) 3 yN)).trans (ag _ (w.heap.size) 4 (yi 0));have bR:=bu.below b2 (by omega);have hl:=run_loadVar_mid (P:=Tryz.prog) _ (w.heap.size) 0 49 (yoL 1 b false yN 0) _ cR.range underlying49 rfl (by kernel_rfl);have HH:Hid (_∧_):=⟨hl,bR⟩;obtain⟨z0,z1,z2,z3,z4⟩:=q2.cs5;have fz0:=q2.f 0;have fz1:=q2.f 1;have fz2:=q2.f 2;have fz3:=q2.f 3;have fz4:=q2.f 4;clear hl bR bu cR;clear q2 b2
  go_wp2
  obtain⟨hl,bR⟩:=HH.out;exact bodyPost_ret (br results16 rfl hl) rfl ⟨rfl,bR⟩
theorem aa4 (n f0 f1 f2 R D L G:Int)(gr ok:Bool)(w:World)(HF:yJ 14 #[yi n] (.tuple #[yhV f0 f1 f2 R D L G gr 1,.bool ok])):
  yC 85 #[yi n] w (yR w (yoV 4 false false yN 0)):=by
 replace HF:Hid _:=HF;have a0:=af w (.cells (yoA 0 false false yN 0) 49);have q0:=ah w (yoL 0 false false yN 0) 49
 go_enter func85,ntmps85
 go_wp2_with fail
 refine(HF.out _).mono ?_;rintro z w1 ⟨rfl,b1⟩;have al:=af w1 (.cells (yhA f0 f1 f2 R D L G gr 1) 42);have d2:=ah w1 (yhL f0 f1 f2 R D L G gr 1) 42;have q2:=(q0.l b1).l al;have b2:=aa (aa a0 b1) al;have hne:w.heap.size≠w1.heap.size:=Nat.ne_of_lt (q0.l b1).lt;clear a0 q0 b1 al HF
 go_upto_region 2 with fail
 generalize w1.alloc (.cells (yhA f0 f1 f2 R D L G gr 1) 42)=W2 at d2 q2 b2⊢;generalize w1.heap.size=PF at d2 hne⊢;have xf:=d2.c 8 rfl;have al:=af W2 (.cells #[yi 0,yi 4,yi 1,yi 5] 3);have s3:=ah W2 [yi 0,yi 4,yi 1,yi 5] 3;have q3:=q2.l al;have d3:=d2.l al;have b3:=aa b2 al;have xf3:=d3.c 8 rfl;obtain⟨u0,u1,u2,u3⟩:=s3.cs4;have cR:au ((((((W2.alloc (.cells #[yi 0,yi 4,yi 1,yi 5] 3)).setCell ⟨w.heap.size,0,none⟩ (yi 4)).setCell ⟨w.heap.size,1,none⟩ (.bool false)).setCell ⟨w.heap.size,2,none⟩ (.bool false)).setCell ⟨w.heap.size,3,none⟩ yN).setCell ⟨w.heap.size,4,none⟩ (yi 0)) (w.heap.size) 49 (yoL 4 false false yN 0):=(((((q3.set 0 (yi 4)).set 1 (.bool false)).set 2 (.bool false)).set 3 yN).set 4 (yi 0));have bu:=((((ag (W2.alloc (.cells #[yi 0,yi 4,yi 1,yi 5] 3)) (w.heap.size) 0 (yi 4)).trans (ag _ (w.heap.size) 1 (.bool false))).trans (ag _ (w.heap.size) 2 (.bool false))).trans (ag _ (w.heap.size) 3 yN)).trans (ag _ (w.heap.size) 4 (yi 0));have bR:=bu.below b3 (by omega);have hl:=run_loadVar_mid (P:=Tryz.prog) _ (w.heap.size) 0 49 (yoL 4 false false yN 0) _ cR.range underlying49 rfl (by kernel_rfl);have HH:Hid (_∧_):=⟨hl,bR⟩;obtain⟨z0,z1,z2,z3,z4⟩:=q3.cs5;have fz0:=q3.f 0;have fz1:=q3.f 1;have fz2:=q3.f 2;have fz3:=q3.f 3;have fz4:=q3.f 4;clear hl bR bu cR;clear q2 b2 q3 b3 al s3
 go_wp2
 obtain⟨hl,bR⟩:=HH.out;exact bodyPost_ret (br results85 rfl hl) rfl ⟨rfl,bR⟩
theorem aa5 (n f0 f1 f2 R D L G:Int)(gr ok:Bool)(w:World)(HF:yJ 14 #[yi n] (.tuple #[yhV f0 f1 f2 R D L G gr 2,.bool ok])):
  yC 85 #[yi n] w (yR w (yoV 1 false false yN 0)):=by
 replace HF:Hid _:=HF;have a0:=af w (.cells (yoA 0 false false yN 0) 49);have q0:=ah w (yoL 0 false false yN 0) 49
 go_enter func85,ntmps85
 go_wp2_with fail
 refine(HF.out _).mono ?_;rintro z w1 ⟨rfl,b1⟩;have al:=af w1 (.cells (yhA f0 f1 f2 R D L G gr 2) 42);have d2:=ah w1 (yhL f0 f1 f2 R D L G gr 2) 42;have q2:=(q0.l b1).l al;have b2:=aa (aa a0 b1) al;have hne:w.heap.size≠w1.heap.size:=Nat.ne_of_lt (q0.l b1).lt;clear a0 q0 b1 al HF
 go_upto_region 2 with fail
 generalize w1.alloc (.cells (yhA f0 f1 f2 R D L G gr 2) 42)=W2 at d2 q2 b2⊢;generalize w1.heap.size=PF at d2 hne⊢;have xf:=d2.c 8 rfl;have al:=af W2 (.cells #[yi 0,yi 4,yi 1,yi 5] 3);have s3:=ah W2 [yi 0,yi 4,yi 1,yi 5] 3;have q3:=q2.l al;have d3:=d2.l al;have b3:=aa b2 al;have xf3:=d3.c 8 rfl;obtain⟨u0,u1,u2,u3⟩:=s3.cs4;have cR:au ((((((W2.alloc (.cells #[yi 0,yi 4,yi 1,yi 5] 3)).setCell ⟨w.heap.size,0,none⟩ (yi 1)).setCell ⟨w.heap.size,1,none⟩ (.bool false)).setCell ⟨w.heap.size,2,none⟩ (.bool false)).setCell ⟨w.heap.size,3,none⟩ yN).setCell ⟨w.heap.size,4,none⟩ (yi 0)) (w.heap.size) 49 (yoL 1 false false yN 0):=(((((q3.set 0 (yi 1)).set 1 (.bool false)).set 2 (.bool false)).set 3 yN).set 4 (yi 0));have bu:=((((ag (W2.alloc (.cells #[yi 0,yi 4,yi 1,yi 5] 3)) (w.heap.size) 0 (yi 1)).trans (ag _ (w.heap.size) 1 (.bool false))).trans (ag _ (w.heap.size) 2 (.bool false))).trans (ag _ (w.heap.size) 3 yN)).trans (ag _ (w.heap.size) 4 (yi 0));have bR:=bu.below b3 (by omega);have hl:=run_loadVar_mid (P:=Tryz.prog) _ (w.heap.size) 0 49 (yoL 1 false false yN 0) _ cR.range underlying49 rfl (by kernel_rfl);have HH:Hid (_∧_):=⟨hl,bR⟩;obtain⟨z0,z1,z2,z3,z4⟩:=q3.cs5;have fz0:=q3.f 0;have fz1:=q3.f 1;have fz2:=q3.f 2;have fz3:=q3.f 3;have fz4:=q3.f 4;clear hl bR bu cR;clear q2 b2 q3 b3 al s3
 go_wp2
 obtain⟨hl,bR⟩:=HH.out;exact bodyPost_ret (br results85 rfl hl) rfl ⟨rfl,bR⟩
theorem aa6 (n f0 f1 f2 R D L G:Int)(gr ok:Bool)(w:World)(HF:yJ 14 #[yi n] (.tuple #[yhV f0 f1 f2 R D L G gr 3,.bool ok])):
  yC 85 #[yi n] w (yR w (yoV 5 false false yN 0)):=by
 replace HF:Hid _:=HF;have a0:=af w (.cells (yoA 0 false false yN 0) 49);have q0:=ah w (yoL 0 false false yN 0) 49
 go_enter func85,ntmps85
 go_wp2_with fail
 refine(HF.out _).mono ?_;rintro z w1 ⟨rfl,b1⟩;have al:=af w1 (.cells (yhA f0 f1 f2 R D L G gr 3) 42);have d2:=ah w1 (yhL f0 f1 f2 R D L G gr 3) 42;have q2:=(q0.l b1).l al;have b2:=aa (aa a0 b1) al;have hne:w.heap.size≠w1.heap.size:=Nat.ne_of_lt (q0.l b1).lt;clear a0 q0 b1 al HF
 go_upto_region 2 with fail
 generalize w1.alloc (.cells (yhA f0 f1 f2 R D L G gr 3) 42)=W2 at d2 q2 b2⊢;generalize w1.heap.size=PF at d2 hne⊢;have xf:=d2.c 8 rfl;have al:=af W2 (.cells #[yi 0,yi 4,yi 1,yi 5] 3);have s3:=ah W2 [yi 0,yi 4,yi 1,yi 5] 3;have q3:=q2.l al;have d3:=d2.l al;have b3:=aa b2 al;have xf3:=d3.c 8 rfl;obtain⟨u0,u1,u2,u3⟩:=s3.cs4;have cR:au ((((((W2.alloc (.cells #[yi 0,yi 4,yi 1,yi 5] 3)).setCell ⟨w.heap.size,0,none⟩ (yi 5)).setCell ⟨w.heap.size,1,none⟩ (.bool false)).setCell ⟨w.heap.size,2,none⟩ (.bool false)).setCell ⟨w.heap.size,3,none⟩ yN).setCell ⟨w.heap.size,4,none⟩ (yi 0)) (w.heap.size) 49 (yoL 5 false false yN 0):=(((((q3.set 0 (yi 5)).set 1 (.bool false)).set 2 (.bool false)).set 3 yN).set 4 (yi 0));have bu:=((((ag (W2.alloc (.cells #[yi 0,yi 4,yi 1,yi 5] 3)) (w.heap.size) 0 (yi 5)).trans (ag _ (w.heap.size) 1 (.bool false))).trans (ag _ (w.heap.size) 2 (.bool false))).trans (ag _ (w.heap.size) 3 yN)).trans (ag _ (w.heap.size) 4 (yi 0));have bR:=bu.below b3 (by omega);have hl:=run_loadVar_mid (P:=Tryz.prog) _ (w.heap.size) 0 49 (yoL 5 false false yN 0) _ cR.range underlying49 rfl (by kernel_rfl);have HH:Hid (_∧_):=⟨hl,bR⟩;obtain⟨z0,z1,z2,z3,z4⟩:=q3.cs5;have fz0:=q3.f 0;have fz1:=q3.f 1;have fz2:=q3.f 2;have fz3:=q3.f 3;have fz4:=q3.f 4;clear hl bR bu cR;clear q2 b2 q3 b3 al s3
 go_wp2
 obtain⟨hl,bR⟩:=HH.out;exact bodyPost_ret (br results85 rfl hl) rfl ⟨rfl,bR⟩
def RVg (w:World)(c:Int)(g:Bool)(t:ak)(z:Ending)(w':World):Prop:=
 ∃s,z= .returned (yoV c g t.s s t.e)∧Rd w' .i64 s (Dg.dg 65536 t.n)∧Far w.heap.size s∧yB w w'
theorem aaB (n f0 f1 f2 R D L G fam wd PW E:Int)(gr ok ng:Bool)(pn:Nat)(t:ak)(w:World)(hPW:IntKind.i64.wrap (wd*D)=PW)(hE:IntKind.i64.wrap (wd*G)=E)(HF:yJ 14 #[yi n] (.tuple #[yhV f0 f1 f2 R D L G gr fam,.bool ok]))
  (HW:yJ 52 #[ygV R D L G gr] (yi wd))
  (HP: ∀w1,yC 50 #[yi PW] w1 (cG w1 pn))
  (HL: ∀vo vc q w1,Rd w1 .i64 (yS vo pn vc) (Dg.dg 65536 pn)→w1.cell? ⟨q,0,none⟩=some (yi 1)→yC 79 #[yS vo pn vc,.slice (some ⟨q,0,none⟩) 1 1] w1 (cG w1 (pn-1)))
  (HB: ∀vo vc w1,Rd w1 .i64 (.slice vo (Dg.dg 65536 (pn-1)).length vc) (Dg.dg 65536 (pn-1))→yC 32 #[ydV ng (.slice vo (Dg.dg 65536 (pn-1)).length vc) E] w1 (di w1 t)):
  yC 84 #[yi n,.bool ng] w (RVg w 2 ng t):=by
 replace HF:Hid _:=HF;replace HW:Hid _:=HW;replace HP:Hid _:=HP;replace HL:Hid _:=HL;replace HB:Hid _:=HB;have a0:=af w (.cells (yoA 0 false false yN 0) 49);have q0:=ah w (yoL 0 false false yN 0) 49
 go_enter func84,ntmps84
 go_wp2_with fail
 refine(HF.out _).mono ?_;rintro z w1 ⟨rfl,b1⟩;have al:=af w1 (.cells (yhA f0 f1 f2 R D L G gr fam) 42);have d2:=ah w1 (yhL f0 f1 f2 R D L G gr fam) 42;have q2:=(q0.l b1).l al;have b2:=aa (aa a0 b1) al;have hne:w.heap.size<w1.heap.size:=(q0.l b1).lt;clear a0 q0 b1 al HF
 go_upto_region 2 with fail
 generalize w1.alloc (.cells (yhA f0 f1 f2 R D L G gr fam) 42)=W2 at d2 q2 b2⊢;generalize w1.heap.size=PF at d2 hne⊢;obtain⟨x0,x1,x2,x3,x4,x5,x6,x7,x8⟩:=d2.cs9
 go_wp2_with fail
 refine(HW.out _).mono ?_;rintro z w3 ⟨rfl,b3⟩;have bb:=aa b3 (Below.refl _ _).drew;have d3:=d2.l bb;have q3:=q2.l bb;have b03:=aa b2 bb;clear x0 x1 x2 x3 x4 x5 x6 x7 x8 d2 q2 b2 b3 bb HW
 go_upto_region 3 with fail
 refine wp_region_held_drew (S:=(fun wq=>au wq PF 42 (yhL f0 f1 f2 R D L G gr fam))) (by kernel_rfl) d3 (fun hS0=> ?_)
 generalize w3.drew=WD at d3 q3 b03 hS0⊢;refine tq 0 (.bool ng) rfl (fun w0 _=>by kernel_rfl) hS0 ?_
 refine tq 1 (.bool ng) rfl (fun w0 _=>by kernel_rfl) hS0 ?_
 refine tq 2 (yi wd) rfl (fun w0 _=>by kernel_rfl) hS0 ?_
 refine tq 3 (.pointer (some ⟨PF,3,none⟩)) rfl (fun w0 _=>by kernel_rfl) hS0 ?_
 refine tq 4 (.pointer (some ⟨PF,4,none⟩)) rfl (fun w0 _=>by kernel_rfl) hS0 ?_
 refine tq 5 (yi D) rfl (fun w0 hw0=>gU 3 (.tmp 20) rfl PF 4 (by kernel_rfl) _ _ underlying3 rfl (hw0.c 4 rfl)) hS0 ?_
 refine tq 6 (yi PW) rfl (fun w0 _=>by go_simp) hS0 ?_
 refine tq 10 (yi wd) rfl (fun w0 _=>by kernel_rfl) hS0 ?_
 refine tq 11 (.pointer (some ⟨PF,3,none⟩)) rfl (fun w0 _=>by kernel_rfl) hS0 ?_
 refine tq 12 (.pointer (some ⟨PF,6,none⟩)) rfl (fun w0 _=>by kernel_rfl) hS0 ?_
 refine tq 13 (yi G) rfl (fun w0 hw0=>gU 3 (.tmp 28) rfl PF 6 (by kernel_rfl) _ _ underlying3 rfl (hw0.c 6 rfl)) hS0 ?_
 refine tq 14 (yi E) rfl (fun w0 _=>by go_simp) hS0 ?_
 refine wpAnyH_ready (rs:=[7,8]) (by kernel_rfl) (by simp) ?_;refine AllReadyH.cons rfl (fun K hK=> ?_) (AllReadyH.cons rfl (fun K hK=> ?_) AllReadyH.nil)
 ·skip
  go_simp
  refine(HP.out _).mono ?_;rintro z wp ⟨vp,rfl,rp,bp⟩;obtain⟨vo,vc,hv⟩:=rp.shape;subst hv;have dp:=d3.l bp;have qp:=q3.l bp;have b0p:=aa b03 bp;refine hK.out _ _ dp (fun hSp=> ?_)
  clear hK K bp d3 q3 b03;refine wpAnyH_ready (rs:=[8]) (by kernel_rfl) (by simp) ?_;refine AllReadyH.cons rfl (fun K hK=> ?_) AllReadyH.nil
  go_simp
  have al:=af wp (.cells #[yi 1] 3);have on:=(ah wp [yi 1] 3).c 0 rfl;have dn:=dp.l al;have qn:=qp.l al;have b0n:=aa b0p al;have rn:=rp.l al;refine hK.out _ _ dn (fun hSn=> ?_)
  clear hK K al dp qp b0p rp;generalize wp.alloc (.cells #[yi 1] 3)=WN at dn qn b0n on hSn rn⊢;generalize wp.heap.size=Q1 at on⊢;refine wpAnyH_ready (rs:=[9]) (by kernel_rfl) (by simp) ?_;refine AllReadyH.cons rfl (fun K hK=> ?_) AllReadyH.nil
  go_simp
  refine(HL.out _ _ _ _ rn on).mono ?_;rintro z wl ⟨vl,rfl,rl,bl⟩;obtain⟨lo,lc,hv⟩:=rl.shape;subst hv;have dl:=dn.l bl;have ql:=qn.l bl;have b0l:=aa b0n bl;refine hK.out _ _ dl (fun hSl=> ?_)
  clear hK K bl dn qn b0n rn on;refine tq 15 ((ydV ng (.slice lo (Dg.dg 65536 (pn-1)).length lc) E)) rfl (fun w0 _=>by kernel_rfl) hSl ?_
  refine wpAnyH_ready (rs:=[16]) (by kernel_rfl) (by simp) ?_;refine AllReadyH.cons rfl (fun K hK=> ?_) AllReadyH.nil
  go_simp
  refine(HB.out _ _ _ rl).mono ?_;rintro z wb ⟨vb,rfl,rb,fb,bb⟩;obtain⟨so,sc,hv⟩:=rb.shape;subst hv;have db:=dl.l bb;have qb:=ql.l bb;have b0b:=aa b0l bb;have fb0:=fb.mono b0l.size;refine hK.out _ _ db (fun hSb=> ?_)
  clear hK K bb dl ql b0l rl;refine tq 17 ((yEV 2 ng t so sc)) rfl (fun w0 _=>by kernel_rfl) hSb ?_
  refine wpAnyH_ready (rs:=[18]) (by kernel_rfl) (by simp) ?_;refine AllReadyH.cons rfl (fun K hK=> ?_) AllReadyH.nil
  rw[if_pos (by kernel_rfl)];have hth:wb.there w.heap.size 0 5:=dD qb;refine wp_store_mid 49 (.tmp 4) (.tmp 33) rfl w.heap.size 0 (yEA 2 ng t so sc) (by kernel_rfl) (by kernel_rfl) hth (by kernel_rfl) (by simp[Value.oneCell']) ?_;have bu:But w.heap.size wb (wb.setCells w.heap.size 0 (yEL 2 ng t so sc)):=de _ _ _ _;have dS:=bu.loc db (by omega);have bS:=bu.below b0b (by omega);have rS:=bu.rd rb (cq rb (Dg.norm_dg _ _ (by omega)) qb (fun x hx n hn=>by simp at hx;rcases hx with rfl|rfl|rfl|rfl|rfl<;>simp;all_goals omega))
  have cR:au (wb.setCells w.heap.size 0 (yEL 2 ng t so sc)) w.heap.size 49 (yEL 2 ng t so sc):=(((((qb.set 0 (yi 2)).set 1 (.bool ng)).set 2 (.bool t.s)).set 3 (yS so t.n sc)).set 4 (yi t.e));refine hK.out _ _ dS (fun hSS=> ?_)
  clear hK K bu hth db qb b0b rb;refine wpAnyH_done (by kernel_rfl) ?_ _;clear hSS;change Exit.then _ _ _ _ (World.setCells wb w.heap.size 0 (yEL 2 ng t so sc));generalize World.setCells wb w.heap.size 0 (yEL 2 ng t so sc)=WS at dS bS rS cR⊢;simp only[Act.put,List.getElem_toArray,List.getElem_cons_succ,List.getElem_cons_zero,List.setIfInBounds_toArray,List.set_cons_zero,List.set_cons_succ];have hl:=run_loadVar_mid (P:=Tryz.prog) _ w.heap.size 0 49 (yEL 2 ng t so sc) _ cR.range underlying49 rfl (by kernel_rfl);replace hl:Hid _:=hl;clear cR
  go_wp2
  exact bodyPost_ret (br results84 rfl hl.out) rfl ⟨_,rfl,rS,fb0,bS⟩
 ·skip
  go_simp
  have al:=af WD (.cells #[yi 1] 3);have on:=(ah WD [yi 1] 3).c 0 rfl;have dn:=d3.l al;have qn:=q3.l al;have b0n:=aa b03 al;refine hK.out _ _ dn (fun hSn=> ?_)
  clear hK K al d3 q3 b03;generalize WD.alloc (.cells #[yi 1] 3)=WN at dn qn b0n on hSn⊢;generalize WD.heap.size=Q1 at on⊢;refine wpAnyH_ready (rs:=[7]) (by kernel_rfl) (by simp) ?_;refine AllReadyH.cons rfl (fun K hK=> ?_) AllReadyH.nil
  go_simp
  refine(HP.out _).mono ?_;rintro z wp ⟨vp,rfl,rp,bp⟩;obtain⟨vo,vc,hv⟩:=rp.shape;subst hv;have dp:=dn.l bp;have qp:=qn.l bp;have b0p:=aa b0n bp;have op:=cell_later bp on;refine hK.out _ _ dp (fun hSp=> ?_)
  clear hK K bp dn qn b0n on;refine wpAnyH_ready (rs:=[9]) (by kernel_rfl) (by simp) ?_;refine AllReadyH.cons rfl (fun K hK=> ?_) AllReadyH.nil
  go_simp
  refine(HL.out _ _ _ _ rp op).mono ?_;rintro z wl ⟨vl,rfl,rl,bl⟩;obtain⟨lo,lc,hv⟩:=rl.shape;subst hv;have dl:=dp.l bl;have ql:=qp.l bl;have b0l:=aa b0p bl;refine hK.out _ _ dl (fun hSl=> ?_)
  clear hK K bl dp qp b0p rp op;refine tq 15 ((ydV ng (.slice lo (Dg.dg 65536 (pn-1)).length lc) E)) rfl (fun w0 _=>by kernel_rfl) hSl ?_
  refine wpAnyH_ready (rs:=[16]) (by kernel_rfl) (by simp) ?_;refine AllReadyH.cons rfl (fun K hK=> ?_) AllReadyH.nil
  go_simp
  refine(HB.out _ _ _ rl).mono ?_;rintro z wb ⟨vb,rfl,rb,fb,bb⟩;obtain⟨so,sc,hv⟩:=rb.shape;subst hv;have db:=dl.l bb;have qb:=ql.l bb;have b0b:=aa b0l bb;have fb0:=fb.mono b0l.size;refine hK.out _ _ db (fun hSb=> ?_)
  clear hK K bb dl ql b0l rl;refine tq 17 ((yEV 2 ng t so sc)) rfl (fun w0 _=>by kernel_rfl) hSb ?_
  refine wpAnyH_ready (rs:=[18]) (by kernel_rfl) (by simp) ?_;refine AllReadyH.cons rfl (fun K hK=> ?_) AllReadyH.nil
  rw[if_pos (by kernel_rfl)];have hth:wb.there w.heap.size 0 5:=dD qb;refine wp_store_mid 49 (.tmp 4) (.tmp 33) rfl w.heap.size 0 (yEA 2 ng t so sc) (by kernel_rfl) (by kernel_rfl) hth (by kernel_rfl) (by simp[Value.oneCell']) ?_;have bu:But w.heap.size wb (wb.setCells w.heap.size 0 (yEL 2 ng t so sc)):=de _ _ _ _;have dS:=bu.loc db (by omega);have bS:=bu.below b0b (by omega);have rS:=bu.rd rb (cq rb (Dg.norm_dg _ _ (by omega)) qb (fun x hx n hn=>by simp at hx;rcases hx with rfl|rfl|rfl|rfl|rfl<;>simp;all_goals omega))
  have cR:au (wb.setCells w.heap.size 0 (yEL 2 ng t so sc)) w.heap.size 49 (yEL 2 ng t so sc):=(((((qb.set 0 (yi 2)).set 1 (.bool ng)).set 2 (.bool t.s)).set 3 (yS so t.n sc)).set 4 (yi t.e));refine hK.out _ _ dS (fun hSS=> ?_)
  clear hK K bu hth db qb b0b rb;refine wpAnyH_done (by kernel_rfl) ?_ _;clear hSS;change Exit.then _ _ _ _ (World.setCells wb w.heap.size 0 (yEL 2 ng t so sc));generalize World.setCells wb w.heap.size 0 (yEL 2 ng t so sc)=WS at dS bS rS cR⊢;simp only[Act.put,List.getElem_toArray,List.getElem_cons_succ,List.getElem_cons_zero,List.setIfInBounds_toArray,List.set_cons_zero,List.set_cons_succ];have hl:=run_loadVar_mid (P:=Tryz.prog) _ w.heap.size 0 49 (yEL 2 ng t so sc) _ cR.range underlying49 rfl (by kernel_rfl);replace hl:Hid _:=hl;clear cR
  go_wp2
  exact bodyPost_ret (br results84 rfl hl.out) rfl ⟨_,rfl,rS,fb0,bS⟩
def X9 (xs cur:List Nat)(d k r:Nat):Prop:=
 cur.length=xs.length∧Dg.Small 65536 cur∧r<d∧Dg.vl 65536 (xs.drop k)=Dg.vl 65536 (cur.drop k)*d+r
theorem Qp {xs cur:List Nat}{d k r t:Nat}(h:X9 xs cur d (k+1) r)(hk:k<xs.length)(ht:t=65536*r+xs.getD k 0)(hd:0<d)(hq:t/d<65536):
  X9 xs (cur.set k (t/d)) d k (t % d):=by
 obtain⟨h1,h2,h3,h5⟩:=h;refine⟨by simpa using h1,Dg.small_set h2 _ _ hq,Nat.mod_lt _ hd, ?_⟩;rw[AU xs k hk,AU (cur.set k (t/d)) k (by simpa using(by omega:k<cur.length)),Dg.getD_set _ _ _ _ (by omega),if_pos rfl,List.drop_set_of_lt (by omega)];simp only[Dg.vl];rw[h5];have:=Nat.div_add_mod t d;rw[Nat.add_mul,Nat.mul_comm (t/d) d,Nat.mul_assoc,Nat.mul_add];omega
theorem M8 {t d r x:Nat}(h1:r<d)(h2:x<65536)(ht:t=65536*r+x):t/d<65536:=by
 rw[Nat.div_lt_iff_lt_mul (by omega)];have:(r+1)*65536≤d*65536:=Nat.mul_le_mul_right _ h1;rw[Nat.mul_comm 65536 d];omega
theorem Cv (d:Nat)(h:d<65536):Dg.dg 65536 d=if d=0 then[] else[d]:=by
 by_cases e:d=0
 ·subst e;rfl
 ·rw[if_neg e]
  exact(Dg.eq_dg 65536 (by omega) [d] d (Dg.small_cons.2 ⟨h,Dg.small_nil _ (by omega)⟩) (by intro _;simpa using e) (by simp[Dg.vl])).symm
theorem IU (va:Value)(xs:List Nat)(vb:Value)(d:Nat)(w:World)(ha:Rd w .i64 va xs)(hb:Rd w .i64 vb [d])(sa:Dg.Small 65536 xs)(hla:xs.length≤1000000)(hd0:0<d)(hd:d<65536):
  yC 35 #[va,vb] w fun e w'=> ∃vq vr,e= .returned (.tuple #[vq,vr])∧Rd w' .i64 vq (Dg.dg 65536 (Dg.vl 65536 xs/d))∧Rd w' .i64 vr (Dg.dg 65536 (Dg.vl 65536 xs % d))∧yB w w':=by
 obtain⟨i0,hi,hz0,hz1,hz2⟩:=info_parts Tryz.infoI64;obtain⟨ao,ca,rfl,-,-,hca⟩:=ha;obtain⟨bo,cb,rfl,-,-,hcb⟩:=hb;obtain⟨bb,boff,rfl,hcellb⟩:=hcb (by simp);have hcb0:=hcellb 0 (by simp);simp only[List.getD_cons_zero,Nat.add_zero] at hcb0;have hlen1:([d]:List Nat).length=1:=rfl;rw[hlen1];clear hcellb hcb hlen1
 go_enter func35,ntmps35
 go_wp2_with (at_make;refine wpList_make_full _ rfl _ _ 29 rfl w.heap.size 3 i0 (yi 0) 1 underlying29 hi hz0 hz1 _ _ _ _ xs.length rfl rfl (by omega) (by omega) ?b2 ?b3 (Nat.le_refl _) ?_)
 case b2=>rw[hz2];omega
 case b3=>unfold maxLen;omega
 intro w0 hown0 hgrow0;have own0:=gL hown0;have bel0:yB w w0:=(Below.refl _ _).grown hgrow0 (Nat.le_refl _) (fun k h=>by cases h)
 clear hown0 hgrow0
 go_wp2
 go_loopw [7,8] (fun rv iv wr=> ∃(k r:Nat) (cur:List Nat),k≤xs.length∧iv=yi ((k:Int)-1)∧rv=yi r∧Own wr w.heap.size 3 .i64 (.slice (some ⟨w.heap.size,0,none⟩) xs.length xs.length) cur∧X9 xs cur d k r∧yB w wr)
  (fun _ iv _=>(intOf iv+1).toNat)
 case atStart=>exact⟨xs.length,0,_,Nat.le_refl _,rfl,rfl,own0,⟨by simp,Dg.small_replicate _ _ (by omega),hd0,by simp[Dg.vl]⟩,bel0⟩
 case round=>
  clear own0 bel0;obtain⟨k,r,cur,hk,rfl,rfl,own,hI,bel⟩:=hrel;have hlen:=hI.1;have hr:=hI.2.2.1
  by_cases hk0:k=0
  ·subst hk0
   obtain⟨h1,h2,h3,h5⟩:=hI;simp only[List.drop_zero] at h5;have e1:Dg.vl 65536 xs/d=Dg.vl 65536 cur:=by
    rw[h5,Nat.mul_comm,Nat.mul_add_div hd0,Nat.div_eq_of_lt h3];omega
   have e2:Dg.vl 65536 xs % d=r:=by
    rw[h5,Nat.mul_comm,Nat.mul_add_mod,Nat.mod_eq_of_lt h3]
   have HE1:Hid (Dg.vl 65536 xs/d=Dg.vl 65536 cur):=e1;have HE2:Hid (Dg.vl 65536 xs % d=r):=e2;have hcl:cur.length≤1000000:=by omega
   clear h5 e1 e2 hlen h1
   go_wp2_with fail
   refine(i9 _ _ _ cur _ own.rd).mono ?_;rintro e w' ⟨m,rfl,hm,rfl⟩;have rq:=xh own h2 hm (by omega);have a1:Below w'.heap.size w' (w'.alloc (.cells #[yi r] 3)):=(Below.refl _ _).alloc (Nat.le_refl _) _;have r1:=cE (w:=w') (k:= .i64) (e:=3) [r] #[yi r] rfl (by unfold maxLen;simp)
   go_wp2_with fail
   refine(i9 _ _ _ [r] _ r1).mono ?_;rintro e w2 ⟨m2,rfl,hm2,rfl⟩;have hml:=hm2.1;simp only[List.length_cons,List.length_nil] at hml;have rr:=uE (cap':=m2) 65536 (by omega) r1 (Dg.small_cons.2 ⟨by omega,Dg.small_nil _ (by omega)⟩) hm2 (Nat.le_refl _) (by unfold maxLen;omega);have ev:Dg.vl 65536 [r]=r:=by simp[Dg.vl]
   rw[ev] at rr;have rq2:=rq.l a1;have bel2:=aa bel a1;clear hm hm2 r1 ev
   go_wp2
   go_ret2
   exact⟨_,_,rfl,by rw[HE1.out];exact rq2,by rw[HE2.out];exact rr,bel2⟩
  ·obtain⟨m,rfl⟩: ∃m,k=m+1:=⟨k-1,by omega⟩
   obtain⟨b,off,rfl,hcell⟩:=hca (by omega);have hx:=cell_later bel (hcell m (by omega));have hbb:=cell_later bel hcb0;have hxl:=sa m;have hq:=own.c m (by omega);have hf:=own.f m;obtain⟨x,ex⟩: ∃x,xs.getD m 0=x:=⟨_,rfl⟩;rw[ex] at hx hxl;have hql:=M8 (t:=65536*r+x) hr hxl rfl;have hst:=Qp hI (by omega) (by rw[ex]) hd0 hql;have hrl:(65536*r+x) % d<d:=Nat.mod_lt _ hd0;obtain⟨t,ht⟩: ∃t,65536*r+x=t:=⟨_,rfl⟩;have htl:t<4294967296:=by omega
   rw[ht] at hst hql hrl;have htI:65536*(r:Int)+(x:Int)=(t:Int):=by omega
   obtain⟨q1,hq1⟩: ∃q1,t/d=q1:=⟨_,rfl⟩;obtain⟨m1,hm1⟩: ∃m1,t % d=m1:=⟨_,rfl⟩;have e1:(t:Int).tdiv d=(q1:Int):=by rw[Int.tdiv_eq_ediv_of_nonneg (by omega),←hq1];exact(Int.natCast_ediv t d).symm
   have e2:(t:Int).tmod d=(m1:Int):=by rw[Int.tmod_eq_emod_of_nonneg (by omega),←hm1];exact(Int.natCast_emod t d).symm
   have e3:(t:Int)/(d:Int)=(q1:Int):=by rw[←hq1];exact(Int.natCast_ediv t d).symm
   have e4:(t:Int) % (d:Int)=(m1:Int):=by rw[←hm1];exact(Int.natCast_emod t d).symm
   rw[hq1] at hst hql;rw[hm1] at hst hrl;have e5:IntKind.i64.wrap (q1:Int)=(q1:Int):=IntWalk.i64_in _ ⟨by omega,by omega⟩;have hdne:((d:Int)==0)=false:=by simp;omega
   clear ex hcell hca hI hq1 hm1 ht hlen
   go_wp2
   go_region
   all_goals go_wp2
   all_goals go_roundw
   case rel=>exact⟨m,_,_,by omega,by go_num,rfl,Own.l (own.store m _) (Below.drew (Below.refl _ _)),hst,(bel.setCell (by exact Nat.le_refl _) _).drew⟩
   case measure=>simp[intOf]
theorem Bj (d:Nat)(w:World)(hd:d<65536):yC 77 #[yi d] w (cG w d):=by
 obtain⟨i0,hi,hz0,hz1,hz2⟩:=info_parts Tryz.infoI64;have hone:=Cv d hd
 by_cases h:d=0
 ·subst h
  go_enter func77,ntmps77
  go_wp2
  refine wp_loop_rounds 1 ?_;rw[rounds_succ]
  go_wp2
  go_ret
  exact⟨_,rfl,(aQ _ 0 0 _).rd,Below.refl _ _⟩
 ·rw[if_neg h] at hone
  have HO:Hid (Dg.dg 65536 d=[d]):=hone;have e1:(d:Int) % 65536=(d:Int):=by omega
  have e2:(d:Int)/65536=0:=by omega
  have hpos:(0:Int)< (d:Int):=by omega
  clear hone
  go_enter func77,ntmps77
  go_wp2
  refine wp_loop_rounds 2 ?_;rw[rounds_succ]
  go_wp2_with (at_builtin;refine wpList_append_own _ rfl _ _ 29 rfl w.heap.size 3 i0 (yi 0) 1 8 underlying29 hi hz0 hz1 hz2 rfl (by decide) _ _ _ rfl (World.ownsRow.alloc (World.ownsRow_nil w w.heap.size 3 1) _) ⟨w.heap.size,0,none⟩ 1 1 [yi d] rfl rfl ?c1 ?c2 ?c3 ?c4 ?c5 ?_)
  case c1=>exact cell_one_new _ _ _
  case c2=>intro u hu;simp at hu;subst hu;rfl
  case c3=>unfold maxLen;omega
  case c4=>omega
  case c5=>simp
  intro v' w3 hown' hgrow _;have R:=iW (Below.refl w.heap.size w) (aQ w w.heap.size 3 .i64) hown' hgrow;clear hown' hgrow;rw[List.nil_append,←HO.out] at R
  go_wp2
  rw[rounds_succ]
  go_wp2
  go_ret
  exact⟨_,rfl,R.1.rd,R.2⟩
end Go.Proofs.YtpgijbdgljkeeaaGreatDoor

/-
  Texts laid together: Gm1, Dr1, Dy5, Dy6, Dy7, Dt1, Dy9, Dk1, Gm2, Gm3.
-/
import Derived.Test.YtpainhklfoaniaaGreatDoorSc21
import Derived.Test.YtpainhklfoaniaaGreatDoorSc12
set_option maxRecDepth 100000
set_option maxHeartbeats 1600000
namespace Go.Proofs.YtpainhklfoaniaaGreatDoor
open _root_.Go.Proofs.Tryz
open Go.RowKit
theorem fw (N:Nat)(n:Int):eZ N n=N*2^n.toNat:=by
 unfold eZ
 split
 ·rw[show n.toNat=0 by omega,Nat.pow_zero,Nat.mul_one]
 ·rfl
theorem eM (M:Nat)(n:Int):dX M n=M*2^ (-n).toNat:=by
 unfold dX
 split
 ·rfl
 ·rw[show(-n).toNat=0 by omega,Nat.pow_zero,Nat.mul_one]
theorem bG (k:Nat):0<2^k:=Nat.pow_pos (by omega)
theorem DS {N M a b a' b':Nat}(h:M*2^b≤N*2^a)(hk:b'+a≤b+a'):M*2^b'≤N*2^a':=by
 refine Nat.le_of_mul_le_mul_right (c:=2^a) ?_ (bG a)
 calc M*2^b'*2^a=M*2^ (b'+a):=by rw[Nat.mul_assoc,←Nat.pow_add]
  _≤M*2^ (b+a'):=Nat.mul_le_mul_left _ (Nat.pow_le_pow_right (by omega) hk)
  _=M*2^b*2^a':=by rw[Nat.mul_assoc,←Nat.pow_add]
  _≤N*2^a*2^a':=Nat.mul_le_mul_right _ h
  _=N*2^a'*2^a:=by rw[Nat.mul_right_comm]
theorem qD (N M:Nat)(E:Int):dY N M E=E+dY N M 0:=by
 unfold dY;omega
theorem BC (N M a b:Nat)(hN:N≠0)(hM:M≠0):M*2^b≤N*2^a↔(b:Int)≤dY N M 0+a:=by
 obtain⟨n1,n2,n3⟩:=uB N hN;obtain⟨m1,m2,m3⟩:=uB M hM;obtain⟨ln,hln⟩: ∃ln,bitLen N=ln:=⟨_,rfl⟩;obtain⟨lm,hlm⟩: ∃lm,bitLen M=lm:=⟨_,rfl⟩;have ht:dY N M 0=0+(((ln:Int)-(lm:Int))-(if eZ N (-((ln:Int)-(lm:Int)))/dX M (-((ln:Int)-(lm:Int)))=0 then 1 else 0)):=by
  unfold dY;rw[hln,hlm]
 rw[hln] at n1 n2 n3;rw[hlm] at m1 m2 m3;have low:M*2^ (ln-1)≤N*2^lm:=by
  rw[Nat.mul_comm];exact Nat.mul_le_mul n2 (Nat.le_of_lt m3)
 have high: ¬M*2^ln≤N*2^ (lm-1):=by
  have h1:N*2^ (lm-1)<2^ln*2^ (lm-1):=Nat.mul_lt_mul_of_pos_right n3 (bG _);have h2:2^ln*2^ (lm-1)≤M*2^ln:=by
   rw[Nat.mul_comm (2^ln)];exact Nat.mul_le_mul_right _ m2
  omega
 have hq:eZ N (-((ln:Int)-(lm:Int)))/dX M (-((ln:Int)-(lm:Int)))=0↔ ¬M*2^ (ln-lm)≤N*2^ (lm-ln):=by
  rw[fw,eM,show(-((ln:Int)-(lm:Int))).toNat=lm-ln by omega,show(-(-((ln:Int)-(lm:Int)))).toNat=ln-lm by omega,Nat.div_eq_zero_iff]
  have:=Nat.mul_pos (Nat.pos_of_ne_zero hM) (bG (ln-lm));omega
 by_cases hz:eZ N (-((ln:Int)-(lm:Int)))/dX M (-((ln:Int)-(lm:Int)))=0
 ·rw[if_pos hz] at ht
  have h0:=hq.1 hz
  constructor
  ·intro h
   refine Decidable.byContradiction fun c=>h0 (DS h ?_)
   omega
  ·intro h
   exact DS low (by omega)
 ·rw[if_neg hz] at ht
  have h0:M*2^ (ln-lm)≤N*2^ (lm-ln):=Decidable.byContradiction fun c=>hz (hq.2 c)
  constructor
  ·intro h
   refine Decidable.byContradiction fun c=>high (DS h ?_)
   omega
  ·intro h
   exact DS h0 (by omega)
theorem BD (N M:Nat)(n:Int)(j:Nat)(hN:N≠0)(hM:M≠0):2^j≤eZ N n/dX M n↔(j:Int)≤dY N M 0+n:=by
 rw[fw,eM,Nat.le_div_iff_mul_le (Nat.mul_pos (Nat.pos_of_ne_zero hM) (bG _)),←Nat.mul_assoc,Nat.mul_comm (2^j),Nat.mul_assoc,←Nat.pow_add,BC N M _ _ hN hM];omega
theorem pP (d m:Nat):bitLen d<m+1↔ ¬2^m≤d:=by
 constructor
 ·intro h c
  have hd:d≠0:=by
   have:=bG m;omega
  obtain⟨-,-,h3⟩:=uB d hd;have:(2:Nat)^bitLen d≤2^m:=Nat.pow_le_pow_right (by omega) (by omega);omega
 ·intro h
  have:=bF d m (by omega);omega
theorem xx (R D k:Int)(N M:Nat)(E:Int)(h1:1≤D)(hN:N≠0)(hM:M≠0):
  bitLen (eZ N (E-(ai R:Int)*k)/dX M (E-(ai R:Int)*k))<ai R*(D-1).toNat+1↔aT R D (dY N M E)<k:=by
 rw[pP,BD N M _ _ hN hM,qD N M E];unfold aT;obtain⟨t,ht⟩: ∃t,dY N M 0=t:=⟨_,rfl⟩;rw[ht];unfold ai
 split<;>simp<;>omega
theorem Ve (R D:Int)(N M:Nat)(E:Int):
  aT R D (dY N M E)< ((bitLen N:Int)-(bitLen M:Int)+E)/(ai R:Int)-D+2:=by
 unfold aT dY ai
 split<;>split<;>simp<;>omega
theorem rP (R D L:Int)(gr:Bool)(N M:Nat)(E:Int)(h1:1≤D)(hN:N≠0)(hM:M≠0):cH R D L gr N M E<2^ (ai R*D.toNat):=by
 refine Nat.lt_of_not_le fun c=> ?_
 unfold cH shP at c;rw[BD N M _ _ hN hM] at c;have hc:aT R D (dY N M E)≤dj R D L gr N M E:=by
  unfold dj
  by_cases h:(decide (aT R D (dY N M E)<L)&&gr)=true
  ·rw[if_pos h]
   have:=of_decide_eq_true (Bool.and_eq_true_iff.1 h).1;omega
  ·rw[if_neg h]
   exact Int.le_refl _
 obtain⟨k,hk⟩: ∃k,dj R D L gr N M E=k:=⟨_,rfl⟩;rw[hk] at c hc;rw[qD] at hc;obtain⟨t,ht⟩: ∃t,dY N M 0=t:=⟨_,rfl⟩;rw[ht] at c hc;unfold aT ai at hc;unfold ai at c
 split at c<;>simp_all<;>omega
theorem Vf (R D L:Int)(gr:Bool)(N M:Nat)(E:Int)(h1:1≤D)(hN:N≠0)(hM:M≠0)(h:dj R D L gr N M E=aT R D (dY N M E)):0<cH R D L gr N M E:=by
 have h2: ¬bitLen (cH R D L gr N M E)<ai R*(D-1).toNat+1:=by
  unfold cH shP;rw[h,xx R D _ N M E h1 hN hM];omega
 have:cH R D L gr N M E≠0:=by
  intro c;rw[c] at h2;simp at h2;rw[gP] at h2;omega
 omega
theorem Ga (R D L:Int)(gr:Bool)(N M:Nat)(E:Int)(h1:1≤D)(hN:N≠0)(hM:M≠0):ai R*D.toNat<bitLen (cH R D L gr N M E+1)↔cH R D L gr N M E+1=2^ (ai R*D.toNat):=by
 have h:=rP R D L gr N M E h1 hN hM;have h2:=pP (cH R D L gr N M E+1) (ai R*D.toNat);omega
theorem uh (R D L:Int)(gr:Bool)(N M:Nat)(E:Int)(h1:1≤D)(hN:N≠0)(hM:M≠0)(p:Int):io R D (cH R D L gr N M E)=cH R D L gr N M E∧gD R D (cH R D L gr N M E) p=p:=by
 have h:=rP R D L gr N M E h1 hN hM;unfold io gD;rw[if_neg (by omega),if_neg (by omega)];exact⟨rfl,rfl⟩
theorem CD (R D:Int)(d:Nat):io R D d=0↔d=0:=by
 unfold io;have h1:=bG (ai R*D.toNat);have h2:=bG (ai R*(D-1).toNat)
 split<;>omega
theorem KL (R D L:Int)(gr qs:Bool)(N M:Nat)(E way:Int):cH R D L gr N M E≤fM R D L gr qs N M E way:=by
 unfold fM
 split<;>omega
theorem kJ {R D L G:Int}(gr qs:Bool)(N M:Nat)(E way:Int)(h1:1≤D)(hLG:L≤G)(hN:N≠0)(hM:M≠0):
  cI R D L G gr qs N M E way=⟨qs,io R D (fM R D L gr qs N M E way),if io R D (fM R D L gr qs N M E way)=0 then 0 else gD R D (fM R D L gr qs N M E way) (dj R D L gr N M E),decide (gF R D L gr N M E=0),decide (G<gD R D (fM R D L gr qs N M E way) (dj R D L gr N M E)),decide (aT R D (dY N M E)<L)⟩:=by
 unfold cI
 by_cases h0:fM R D L gr qs N M E way=0
 ·have hw:cH R D L gr N M E=0:=by
   have:=KL R D L gr qs N M E way;omega
  have hc:dj R D L gr N M E=L:=by
   refine Decidable.byContradiction fun c=> ?_
   have e:dj R D L gr N M E=aT R D (dY N M E):=by
    unfold dj at c⊢
    split at c
    ·exact absurd rfl c
    ·rw[if_neg (by assumption)]
   have:=Vf R D L gr N M E h1 hN hM e;omega
  have hd:=uh R D L gr N M E h1 hN hM (dj R D L gr N M E);rw[if_pos h0,h0,if_pos ((CD R D 0).2 rfl),(CD R D 0).2 rfl];rw[hw] at hd;rw[hd.2,hc,decide_eq_false (show¬G<L by omega)]
 ·rw[if_neg h0,if_neg (fun c=>h0 ((CD R D _).1 c))]
def Rv (w:World)(v:Value)(t:ak):Prop:= ∃s,v=(ydV t.s s t.e)∧Rd w .i64 s (Dg.dg 65536 t.n)
def dr (w:World)(t:ak)(e:Ending)(w':World):Prop:= ∃s,e= .returned (ydV t.s s t.e)∧Rd w' .i64 s (Dg.dg 65536 t.n)∧yB w w'
def di (w:World)(t:ak)(e:Ending)(w':World):Prop:= ∃s,e= .returned (ydV t.s s t.e)∧Rd w' .i64 s (Dg.dg 65536 t.n)∧Far w.heap.size s∧yB w w'
theorem di.near {w:World}{t:ak}{e:Ending}{w':World}(h:di w t e w'):dr w t e w':=by
 obtain⟨s,h1,h2,-,h3⟩:=h;exact⟨s,h1,h2,h3⟩
theorem Rv.l {w w':World}{v:Value}{t:ak}(h:Rv w v t)(hb:yB w w'):Rv w' v t:=by
 obtain⟨s,hv,hr⟩:=h;exact⟨s,hv,hr.l hb⟩
def ZB (w:World)(b:Nat):Prop:=b<w.heap.size∧ ∃ty,w.heap[b]? =some (.cells (ydA false yN 0) ty (0,0))
theorem ZB.l {w w':World}{b:Nat}(h:ZB w b)(hb:yB w w'):ZB w' b:=by
 obtain⟨hl,ty,hh⟩:=h;exact⟨Nat.lt_of_lt_of_le hl hb.size,ty,(hb.block b hl).trans hh⟩
theorem dI (w:World)(ty:TypeId):ZB (w.alloc (.cells (ydA false yN 0) ty)) w.heap.size:=
 ⟨by simp[World.size_alloc],ty,heap_alloc_new _ _⟩
theorem ZB.rd {w:World}{b:Nat}{v:Value}{zs:List Nat}(h:ZB w b)(hr:Rd w .i64 v zs)(hn:Dg.Norm zs)(x0 x1 x2:Value):
  Rd (((w.setCell ⟨b,0,none⟩ x0).setCell ⟨b,1,none⟩ x1).setCell ⟨b,2,none⟩ x2) .i64 v zs:=by
 obtain⟨hl,ty,hh⟩:=h;obtain⟨ao,cap,rfl,h1,h2,h3⟩:=hr;refine⟨ao,cap,rfl,h1,h2,fun hp=> ?_⟩
 obtain⟨c,off,rfl,hc⟩:=h3 hp;refine⟨c,off,rfl,fun i hi=> ?_⟩
 have hne:c≠b:=by
  intro e;subst e;have k1:=hc (zs.length-1) (by omega);have hz:=hn (List.length_pos_iff.1 hp);unfold World.cell? at k1;simp only[hh] at k1;obtain⟨o,ho⟩: ∃o,off+(zs.length-1)=o:=⟨_,rfl⟩;rw[ho] at k1;generalize zs.getD (zs.length-1) 0=d at*
  match o,k1 with
  |0,k1=>simp at k1
  |1,k1=>simp at k1
  |2,k1=>simp at k1;omega
  |o+3,k1=>simp at k1
 rw[World.cell?_setCell_other (h:=by simp),World.cell?_setCell_other (h:=by simp),World.cell?_setCell_other (h:=by simp)];exact hc i hi
theorem QY (l:List Nat)(k t m:Nat)(hk:k<l.length)(h: ∀j,j<k→l.getD j 0=0)(hd:l.getD k 0=2^t*(2*m+1))(ht:t<16):tz (Dg.vl 65536 l)=16*k+t:=by
 have h1:=Dg.vl_split 65536 l k hk;have h0:Dg.vl 65536 (l.take k)=0:=Dg.vl_zeros 65536 (l.take k) (fun i=>by
  by_cases hi:i<k
  ·have:=h i hi
   simpa[List.getD_eq_getElem?_getD,List.getElem?_take,hi] using this
  ·simp[List.getD_eq_getElem?_getD,List.getElem?_take,hi])
 rw[h0,hd,Nat.zero_add] at h1;obtain⟨u,hu⟩: ∃u,Dg.vl 65536 (l.drop (k+1))=u:=⟨_,rfl⟩;rw[hu] at h1;have e32:(65536:Nat)=2^t*(2*2^ (15-t)):=by
  have:(65536:Nat)=2^ (t+(1+(15-t))):=by rw[show t+(1+(15-t))=16 from by omega]
  rw[this,Nat.pow_add,Nat.pow_add,Nat.pow_one]
 have e1:(2:Nat)^ (16*k)=65536^k:=by rw[Nat.pow_mul]
 refine F8 (m:=m+2^ (15-t)*u) ?_;rw[h1,Nat.pow_add,e1,Nat.mul_assoc]
 congr 1
 generalize 2^ (15-t)=c at*;have e2:65536*u=2^t*(2*(c*u)):=by rw[e32];simp only[Nat.mul_assoc]
 rw[e2,←Nat.mul_add]
 congr 1
 omega
theorem lA (v:Value)(t:ak)(w:World)(hv:Rv w v t)(hL:(Dg.dg 65536 t.n).length≤100000)(he1: -1000000≤t.e)(he2:t.e≤1000000):
  yC 33 #[v] w (di w (bare t)):=by
 obtain⟨s0,rfl,hr⟩:=hv;obtain⟨ao,ca,rfl⟩:=hr.shape;obtain⟨ts,n,e⟩:=t;simp only at hr hL he1 he2⊢
 by_cases hn:n=0
 ·subst hn
  rw[show Dg.dg 65536 0=[] from rfl] at hr⊢
  rw[show bare ⟨ts,0,e⟩=⟨false,0,0⟩ from by unfold bare;rfl]
  go_enter func33,ntmps33
  go_wp2
  go_returns
  exact⟨_,rfl,aN _ _,(fun a n c h=>by cases h),((Below.refl _ _).alloc (Nat.le_refl _) _).alloc (by simp[World.size_alloc]) _⟩
 ·have h0:(((Dg.dg 65536 n).length:Int)==0)=false:=by simp[Dg.dg_nil_iff 65536 n (by omega)];exact hn
  have hsm:=Dg.small_dg 65536 n (by omega);have hnm:=Dg.norm_dg 65536 n (by omega);have hvl:=Dg.vl_dg 65536 n (by omega);have hne:Dg.dg 65536 n≠[]:=by rw[Ne,Dg.dg_nil_iff 65536 n (by omega)];exact hn
  obtain⟨xs,hx⟩: ∃xs,Dg.dg 65536 n=xs:=⟨_,rfl⟩;rw[hx] at hr hL h0 hsm hnm hvl hne⊢;have hlp:0<xs.length:=List.length_pos_iff.2 hne;have HNM:Hid (xs.getD (xs.length-1) 0≠0):=hnm hne;obtain⟨-,-,hcb⟩:=iQ hr;obtain⟨b,off,hao,hcell⟩:=hcb hlp;subst hao;have bA:=aa (af w (.cells (ydA ts (.slice (some ⟨b,off,none⟩) xs.length ca) e) 35)) (af _ (.cells (ydA false yN 0) 35))
  go_enter func33,ntmps33
  go_wp2
  go_loop [3] (fun nv=> ∃k:Nat,k<xs.length∧nv=yi ((16*k:Nat):Int)∧Hid (∀j,j<k→xs.getD j 0=0)) (fun nv=>xs.length-(intOf nv).toNat/16)
  case atStart=>exact⟨0,hlp,rfl,fun j hj=>absurd hj (Nat.not_lt_zero j)⟩
  case round=>
   obtain⟨k,hk,rfl,hzk⟩:=hrel;have hq:((16*k:Nat):Int)/16=(k:Int):=by omega
   have hc:=cell_later bA (hcell k hk);have hl:=hsm k;obtain⟨x,hxx⟩: ∃x,xs.getD k 0=x:=⟨_,rfl⟩;rw[hxx] at hc hl;have HX:Hid (xs.getD k 0=x):=hxx;clear hxx
   by_cases hx0:x=0
   ·subst hx0
    have hk1:k+1<xs.length:=by
     rcases Nat.lt_or_ge (k+1) xs.length with h|h
     ·exact h
     ·exfalso
      have:k=xs.length-1:=by omega
      exact HNM.out (by rw[←this];exact HX.out)
    go_wp2
    go_round
    case rel=>exact⟨k+1,hk1,by go_num,fun j hj=>by
     by_cases e:j=k
     ·rw[e];exact HX.out
     ·exact hzk.out j (by omega)⟩
    case measure=>simp[intOf];omega
   ·have h1:((x:Int)==0)=false:=by simp;exact hx0
    go_wp2
    have bd:Below (((w.alloc (.cells (ydA ts (.slice (some ⟨b,off,none⟩) xs.length ca) e) 35)).alloc (.cells (ydA false yN 0) 35))).heap.size ((w.alloc (.cells (ydA ts (.slice (some ⟨b,off,none⟩) xs.length ca) e) 35)).alloc (.cells (ydA false yN 0) 35)) ((w.alloc (.cells (ydA ts (.slice (some ⟨b,off,none⟩) xs.length ca) e) 35)).alloc (.cells (ydA false yN 0) 35)).drew:=(Below.refl _ _).drew;have l1:=((aA w (.bool ts) (.slice (some ⟨b,off,none⟩) xs.length ca) (yi e) 35).l (af _ (.cells (ydA false yN 0) 35))).l bd;have l2:=(aA (w.alloc (.cells (ydA ts (.slice (some ⟨b,off,none⟩) xs.length ca) e) 35)) (.bool false) yN (yi 0) 35).l bd;have z2:=(dI (w.alloc (.cells (ydA ts (.slice (some ⟨b,off,none⟩) xs.length ca) e) 35)) 35).l bd;rw[World.size_alloc] at l2 z2;have b02:=aa bA bd;clear bd
    go_loop [3,4] (fun nv dv=> ∃j d:Nat,nv=yi (16*(k:Int)+(j:Int))∧dv=yi (d:Int)∧0<d∧d≤x∧Hid (x=2^j*d)∧j≤16) (fun _ dv=>(intOf dv).toNat)
    case atStart=>exact⟨0,x,by simp,rfl,by omega,Nat.le_refl _,by show x=2^0*x;simp,by omega⟩
    case round=>
     obtain⟨j,d,rfl,rfl,hd0,hdx,hxd,hj⟩:=hrel
     by_cases hev:d % 2=0
     ·have e1:((d:Int) % 2==0)=true:=by simp;omega
      have hj2:j+1≤16:=by
       rcases Nat.lt_or_ge j 16 with h|h
       ·exact h
       ·exfalso
        have h2:2^16≤2^j:=Nat.pow_le_pow_right (by omega) h;have h3:2^j*1≤2^j*d:=Nat.mul_le_mul_left _ (by omega);rw[←hxd.out] at h3;omega
      go_wp2
      go_round
      case rel=>exact⟨j+1,d/2,by go_num,by go_num,by omega,by omega,by
       show x=2^ (j+1)*(d/2)
       rw[Nat.pow_succ,Nat.mul_assoc,show 2*(d/2)=d from by omega]
       exact hxd.out,hj2⟩
      case measure=>simp[intOf];omega
     ·have e1:((d:Int) % 2==0)=false:=by simp;omega
      obtain⟨m,hm⟩: ∃m,d=2*m+1:=⟨d/2,by omega⟩;have hj15:j<16:=by
       rcases Nat.lt_or_ge j 16 with h|h
       ·exact h
       ·exfalso
        have h2:2^16≤2^j:=Nat.pow_le_pow_right (by omega) h;have h3:2^j*1≤2^j*d:=Nat.mul_le_mul_left _ (by omega);rw[←hxd.out] at h3;omega
      have htz:=QY xs k j m hk hzk.out (by rw[HX.out,←hm];exact hxd.out) hj15;rw[hvl] at htz;have HB:Hid (bare ⟨ts,n,e⟩=⟨ts,n/2^ (16*k+j),e+(16*(k:Int)+(j:Int))⟩):=by
       show bare ⟨ts,n,e⟩=_
       unfold bare;rw[if_neg hn];simp only[htz];rw[show((16*k+j:Nat):Int)=16*(k:Int)+(j:Int) from by omega]
      have HD:Hid (∀w1,yB w w1→yC 34 #[.slice (some ⟨b,off,none⟩) xs.length ca,yi (16*(k:Int)+(j:Int))] w1 (Si w1 (n/2^ (16*k+j)))):=fun w1 b1=>by
       have:=MD _ xs (16*k+j) k j _ _ w1 (hr.l b1) hsm (by omega) rfl hj15 (by omega) rfl rfl
       rwa [hvl,show((16*k+j:Nat):Int)=16*(k:Int)+(j:Int) from by omega] at this
      obtain⟨q,hqq⟩: ∃q,n/2^ (16*k+j)=q:=⟨_,rfl⟩;rw[hqq] at HB HD;have e5:IntKind.i64.wrap (e+(16*(k:Int)+(j:Int)))=e+(16*(k:Int)+(j:Int)):=IntWalk.i64_in _ ⟨by omega,by omega⟩;obtain⟨-,⟨c0,c1,c2⟩,-⟩:=id l1;have ne3:w.heap.size+1≠w.heap.size:=by omega
      clear hqq htz hm hxd hev
      go_wp2
      go_region_held3 (fun wq=>wq.cell? ⟨w.heap.size,0,none⟩=some (.bool ts)∧wq.cell? ⟨w.heap.size,1,none⟩=some (.slice (some ⟨b,off,none⟩) xs.length ca)∧wq.cell? ⟨w.heap.size,2,none⟩=some (yi e)) (go_keep) (first
       | (go_at_call 34;refine(HD.out _ b02).mono ?_;rintro z w3 ⟨vs,rfl,r3,hF3,b3⟩;have l13:=l1.l b3;have l23:=l2.l b3;have z23:=z2.l b3;have b03:=aa b02 b3;obtain⟨so,sc,hvs⟩:=r3.shape;subst hvs;have HF:Hid (Far w.heap.size (yS so q sc)):=hF3.mono b02.size;clear hF3;obtain⟨-,⟨p0,p1,p2⟩,-⟩:=id l13;obtain⟨hl3,⟨d0,d1,d2⟩,f0,f1,f2⟩:=id l23))
      all_goals go_wp2
      obtain⟨-,⟨g0,g1,g2⟩,-⟩:=aD l23 (.bool ts) (yS so q sc) (yi (e+(16*(k:Int)+(j:Int))));have r7:=z23.rd r3 (Dg.norm_dg _ _ (by omega)) (.bool ts) (yS so q sc) (yi (e+(16*(k:Int)+(j:Int))));have b8:=am b03 (show w.heap.size≤w.heap.size+1 by omega) (.bool ts) (yS so q sc) (yi (e+(16*(k:Int)+(j:Int))))
      refine bodyPost_ret (v:=(ydV ts (yS so q sc) (e+(16*(k:Int)+(j:Int))))) (by simp[results,results33,go_sem,g0,g1,g2]) rfl ?_
      show di w (bare ⟨ts,n,e⟩) _ _
      rw[HB.out];exact⟨_,rfl,r7,HF.out,b8⟩
def aS (xs:List Nat)(e:Int):Int:=if chk xs=0 then(if e< -20000∨20000<e then 3 else 0) else chk xs
theorem nS (s:Bool)(ao:Option Addr)(ca:Nat)(xs:List Nat)(e:Int)(w:World)(hr:Rd w .u32 (.slice ao xs.length ca) xs):
  yC 124 #[ydV s (.slice ao xs.length ca) e] w (yR w (yi (aS xs e))):=by
 have bA:=af w (.cells (ydA s (.slice ao xs.length ca) e) 86);have hk:=jC _ xs _ (hr.l bA);unfold aS;obtain⟨c,hc⟩: ∃c,chk xs=c:=⟨_,rfl⟩;rw[hc] at hk⊢;clear hc hr
 by_cases h:c=0
 ·subst h
  rw[if_pos rfl]
  by_cases h1:e< -20000
  ·rw[if_pos (Or.inl h1)]
   go_enter func124,ntmps124
   go_wp2_with fail
   refine hk.mono ?_;rintro z w' ⟨rfl,rfl⟩;clear hk
   go_wp2
   go_ret
   exact⟨rfl,bA⟩
  ·by_cases h2:20000<e
   ·rw[if_pos (Or.inr h2)]
    go_enter func124,ntmps124
    go_wp2_with fail
    refine hk.mono ?_;rintro z w' ⟨rfl,rfl⟩;clear hk
    go_wp2
    go_ret
    exact⟨rfl,bA⟩
   ·rw[if_neg (by omega)]
    go_enter func124,ntmps124
    go_wp2_with fail
    refine hk.mono ?_;rintro z w' ⟨rfl,rfl⟩;clear hk
    go_wp2
    go_ret
    exact⟨rfl,bA⟩
 ·rw[if_neg h]
  go_enter func124,ntmps124
  go_wp2_with fail
  refine hk.mono ?_;rintro z w' ⟨rfl,rfl⟩;clear hk
  go_wp2
  go_ret
  exact⟨rfl,bA⟩
theorem gZ (n L:Nat)(h:(Dg.dg 4294967296 n).length≤L):tz n≤32*L:=by
 by_cases h0:n=0
 ·subst h0;exact Nat.zero_le _
 ·obtain⟨m,hm⟩:=fO h0
  have h1:=Dg.vl_lt 4294967296 (Dg.dg 4294967296 n) (Dg.small_dg _ _ (by omega));rw[Dg.vl_dg _ _ (by omega)] at h1;have h2:4294967296^ (Dg.dg 4294967296 n).length≤4294967296^L:=Nat.pow_le_pow_right (by omega) h;have h3:(4294967296:Nat)^L=2^ (32*L):=by rw[Nat.pow_mul]
  have h4:2^tz n*1≤2^tz n*(2*m+1):=Nat.mul_le_mul_left _ (by omega);rw[←hm,Nat.mul_one] at h4;have h5:2^tz n<2^ (32*L):=by rw[←h3];omega
  exact Nat.le_of_lt ((Nat.pow_lt_pow_iff_right (by omega)).1 h5)
def cC (c:Int)(t:ak):ak×Int:=if c=0 then bU t else(⟨false,0,0⟩,c)
theorem bL {xs:List Nat}{e:Int}(h:aS xs e=0):chk xs=0∧ -20000≤e∧e≤20000:=by
 unfold aS at h
 by_cases h1:chk xs=0
 ·rw[if_pos h1] at h
  by_cases h2:e< -20000∨20000<e
  ·rw[if_pos h2] at h;omega
  ·exact⟨h1,by omega,by omega⟩
 ·rw[if_neg h1] at h;exact absurd h h1
theorem jw {w:World}{s:Bool}{ao:Option Addr}{ca:Nat}{xs:List Nat}{e:Int}(hr:Rd w .u32 (.slice ao xs.length ca) xs)(sa:Dg.Small 4294967296 xs)(hn:Dg.Norm xs):
  Dv w (ydV s (.slice ao xs.length ca) e) ⟨s,Dg.vl 4294967296 xs,e⟩:=by
 have h:=Dg.eq_dg 4294967296 (by omega) xs _ sa hn rfl;refine⟨_,rfl, ?_⟩;simp only;rw[←h];exact hr
theorem nt {n:Nat}{e:Int}(h:(Dg.dg 4294967296 n).length≤1200)(h1: -20000≤e)(h2:e≤20000):aS (Dg.dg 4294967296 n) e=0:=by
 unfold aS;rw[pJ (Dg.norm_dg _ _ (by omega)) h,if_pos rfl,if_neg (by omega)]
def dJ (t:ak):Int:=if t.n=0 then 0 else if t.s then-1 else 1
theorem qB (v:Value)(t:ak)(w:World)(hv:Dv w v t):yC 154 #[v] w (yR w (yi (dJ t))):=by
 obtain⟨s0,rfl,hr⟩:=hv;obtain⟨ao,ca,rfl⟩:=hr.shape;obtain⟨ts,n,e⟩:=t;have hnl:=Dg.dg_nil_iff 4294967296 n (by omega);simp only at hr⊢;unfold dJ;simp only;obtain⟨m,hm⟩: ∃m,(Dg.dg 4294967296 n).length=m:=⟨_,rfl⟩;have hz:m=0↔n=0:=by rw[←hm,List.length_eq_zero_iff];exact hnl
 rw[hm];have bA:=af w (.cells (ydA ts (.slice ao m ca) e) 205);clear hm hr hnl
 by_cases h:n=0
 ·rw[if_pos h]
  have hm0:=hz.2 h;subst hm0;clear hz h
  go_enter func154,ntmps154
  go_wp2
  go_ret
  exact⟨rfl,bA⟩
 ·rw[if_neg h]
  have hm0:((m:Int)==0)=false:=by
   have: ¬m=0:=fun e=>h (hz.1 e)
   simp;exact this
  clear hz h
  cases ts
  ·go_enter func154,ntmps154
   go_wp2
   go_ret
   exact⟨rfl,bA⟩
  ·go_enter func154,ntmps154
   go_wp2
   go_ret
   exact⟨rfl,bA⟩
theorem Ad (q k:Nat)(h:q≠0):bitLen (2^k*q)=k+bitLen q:=by
 have hd:2^k*q/2^k=q:=Nat.mul_div_cancel_left q (Nat.pow_pos (by omega));have:=bitLen_shift (2^k*q) k (by rw[hd];exact h)
 rwa [hd] at this
def cP (R D L:Int)(gr:Bool)(n:Nat)(e:Int):Int:=
 if(decide (aT R D ((bitLen n:Int)-1+e)<L)&&gr)=true then L else aT R D ((bitLen n:Int)-1+e)
def dA (R D L G:Int)(gr:Bool)(n:Nat)(e:Int):Bool:=
 decide (n=0∨(L≤cP R D L gr n e∧cP R D L gr n e≤G∧(ai R:Int)*cP R D L gr n e≤e+(tz n:Int)))
def inR (R D L G:Int)(gr:Bool)(m:Nat)(e:Int):Bool:=
 decide (m=0∨((ai R:Int)*L≤e∧e+(bitLen m:Int)≤(ai R:Int)*(G+D)∧(gr=true∨L≤aT R D (e+(bitLen m:Int)-1))∧(ai R:Int)*max L (aT R D (e+(bitLen m:Int)-1))≤e))
theorem gN {t:ak}(h:t.n≠0):(bare t).n≠0∧(bare t).e=t.e+(tz t.n:Int)∧(bare t).e+(bitLen (bare t).n:Int)=t.e+(bitLen t.n:Int):=by
 obtain⟨m,hm⟩:=fO h;have e:(bare t).n=2*m+1∧(bare t).e=t.e+(tz t.n:Int):=by
  unfold bare;rw[if_neg h];exact⟨lI hm,rfl⟩
 have hb:bitLen t.n=tz t.n+bitLen (2*m+1):=by
  have:=Ad (2*m+1) (tz t.n) (by omega)
  rwa [←hm] at this
 refine⟨by omega,e.2, ?_⟩;rw[e.1,e.2,hb];omega
theorem jK {R D L G:Int}(gr:Bool)(t:ak)(hLG:L≤G):inR R D L G gr (bare t).n (bare t).e=dA R D L G gr t.n t.e:=by
 unfold inR dA;refine decide_eq_decide.2 ?_
 by_cases h:t.n=0
 ·have:(bare t).n=0:=by unfold bare;rw[if_pos h]
  simp only[h,this,true_or]
 ·obtain⟨h1,h2,h3⟩:=gN h
  rw[h3];simp only[h1,h,false_or,h2];unfold cP;rw[show t.e+(bitLen t.n:Int)-1=(bitLen t.n:Int)-1+t.e by omega]
  obtain⟨p,hp⟩: ∃p,(bitLen t.n:Int)-1+t.e=p:=⟨_,rfl⟩;rw[show t.e+(bitLen t.n:Int)=p+1 by omega,hp]
  clear h1 h2 h3 h;obtain⟨z,hz⟩: ∃z,t.e+(tz t.n:Int)=z:=⟨_,rfl⟩;rw[hz];have hw:aT R D p=p/(ai R:Int)-(D-1):=rfl;obtain⟨k,hk⟩: ∃k,aT R D p=k:=⟨_,rfl⟩;rw[hk] at hw⊢;clear hp hz hk;unfold ai at*
  cases gr<;>by_cases h16:R=16<;>simp only[h16,if_true,if_false] at hw⊢ <;>by_cases hl:k<L<;>simp[hl]<;>omega
theorem aaN {d j k:Nat}(h1:2^j≤d)(h2:d<2^k):j<bitLen d∧bitLen d≤k:=by
 have a:=pP d j;have b:=bF d k h2;omega
theorem Ep {R D k:Int}{d:Nat}(hD:1≤D)(h1:2^ (ai R*(D-1).toNat)≤d)(h2:d<2^ (ai R*D.toNat)):aT R D ((bitLen d:Int)-1+(ai R:Int)*k)=k:=by
 obtain⟨b1,b2⟩:=aaN h1 h2;unfold aT;obtain⟨b,hb⟩: ∃b,bitLen d=b:=⟨_,rfl⟩;rw[hb] at b1 b2⊢;unfold ai at*
 split at b1<;>simp_all<;>omega
theorem Il {R D k:Int}{d:Nat}(hD:1≤D)(h2:d<2^ (ai R*D.toNat)):aT R D ((bitLen d:Int)-1+(ai R:Int)*k)≤k:=by
 have b2:=bF d _ h2;unfold aT;obtain⟨b,hb⟩: ∃b,bitLen d=b:=⟨_,rfl⟩;rw[hb] at b2⊢;unfold ai at*
 split at b2<;>simp_all<;>omega
theorem Sg {R D L k:Int}{gr:Bool}{d:Nat}(hD:1≤D)(h2:d<2^ (ai R*D.toNat))(hk:L≤k)(hf:2^ (ai R*(D-1).toNat)≤d∨(gr=true∧k=L)):cP R D L gr d ((ai R:Int)*k)=k:=by
 unfold cP
 rcases hf with h1| ⟨rfl,rfl⟩
 ·rw[Ep hD h1 h2,decide_eq_false (by omega)]
  rfl
 ·have h:=Il (k:=k) hD h2
  by_cases c:aT R D ((bitLen d:Int)-1+(ai R:Int)*k)<k
  ·rw[decide_eq_true c]
   rfl
  ·rw[decide_eq_false c]
   show aT R D ((bitLen d:Int)-1+(ai R:Int)*k)=k
   omega
theorem tN {R D L G k:Int}{gr:Bool}{d:Nat}(hD:1≤D)(h2:d<2^ (ai R*D.toNat))(hk:L≤k)(hf:2^ (ai R*(D-1).toNat)≤d∨(gr=true∧k=L))(h0:d≠0):dA R D L G gr d ((ai R:Int)*k)=decide (k≤G):=by
 unfold dA;rw[Sg hD h2 hk hf];refine decide_eq_decide.2 ?_;omega
theorem tO (R D L G:Int)(gr:Bool)(e:Int):dA R D L G gr 0 e=true:=decide_eq_true (.inl rfl)
end Go.Proofs.YtpainhklfoaniaaGreatDoor

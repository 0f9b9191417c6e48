/-
  Texts laid together: Dr1, Gg1, Rk1, Cv3, Ra3, Ra5, Ra8, Cv5, Cv6.
-/
import Derived.Test.YtpainhklfoaniaaGreatDoorChecked
import Derived.Test.YtpainhklfoaniaaGreatDoorDyCs
import Derived.Test.YtpainhklfoaniaaGreatDoorCv4
set_option maxRecDepth 100000
set_option maxHeartbeats 3200000
namespace Go.Proofs.YtpainhklfoaniaaGreatDoor
open _root_.Go.Proofs.Tryz
open Go.RowKit
theorem iJ (v:Value)(t:ak)(w:World)(hv:Rv w v t)(hL:(Dg.dg 65536 t.n).length≤100000)(he1: -1000000≤t.e)(he2:t.e≤1000000):
  yC 33 #[v] w (dr w (bare t)):=
 (lA v t w hv hL he1 he2).mono fun _ _ h=>h.near
def LeQ (K:Nat)(N1 M1:Nat)(E1:Int)(N2 M2:Nat)(E2:Int):Prop:=N1*M2*2^ (E1+K).toNat≤N2*M1*2^ (E2+K).toNat
theorem CL (a b:Nat):(2:Nat)^ (a+b)=2^a*2^b:=Nat.pow_add ..
theorem Gx {K N1 M1 N2 M2:Nat}{E1 E2 n:Int}(k1: -(K:Int)≤E1)(k2: -(K:Int)≤E2)(h:LeQ K N1 M1 E1 N2 M2 E2):eZ N1 (E1-n)*dX M2 (E2-n)≤eZ N2 (E2-n)*dX M1 (E1-n):=by
 rw[fw,fw,eM,eM];unfold LeQ at h;have e:(E1-n).toNat+(-(E2-n)).toNat+(E2+K).toNat=(E2-n).toNat+(-(E1-n)).toNat+(E1+K).toNat:=by omega
 have e2:=congrArg (fun x=>(2:Nat)^x) e
 simp only[CL] at e2;have p1:=bG (E1+K).toNat;have p2:=bG (E2+K).toNat;generalize(2:Nat)^ (E1-n).toNat=a at*;generalize(2:Nat)^ (-(E2-n)).toNat=b at*;generalize(2:Nat)^ (E2-n).toNat=c at*;generalize(2:Nat)^ (-(E1-n)).toNat=d at*;generalize(2:Nat)^ (E1+K).toNat=P1 at*;generalize(2:Nat)^ (E2+K).toNat=P2 at*;refine Nat.le_of_mul_le_mul_right (c:=P1*P2) ?_ (Nat.mul_pos p1 p2);have g1:N1*M2*P1*(a*b*P2)≤N2*M1*P2*(a*b*P2):=Nat.mul_le_mul_right _ h;have g2:N1*a*(M2*b)*(P1*P2)=N1*M2*P1*(a*b*P2):=by ac_rfl
 have g3:N2*c*(M1*d)*(P1*P2)=N2*M1*P2*(c*d*P1):=by ac_rfl
 rw[g2,g3,←e2];exact g1
theorem Gk {X Y X' Y':Nat}(hY:0<Y)(hY':0<Y')(h:X*Y'=2*X'*Y):
  X'/Y'=X/Y/2∧(X' % Y'=0↔X/Y % 2=0∧X % Y=0)∧dm ((X' % Y'*2:Nat):Int) Y'=if X/Y % 2=1 then(if X % Y=0 then 0 else 1) else-1:=by
 obtain⟨q,hq⟩: ∃q,X/Y=q:=⟨_,rfl⟩;obtain⟨r,hr⟩: ∃r,X % Y=r:=⟨_,rfl⟩;have hX:X=Y*q+r:=by rw[←hq,←hr];exact(Nat.div_add_mod X Y).symm
 have hrY:r<Y:=by rw[←hr];exact Nat.mod_lt _ hY
 have hb:q % 2<2:=Nat.mod_lt _ (by omega);have hq2:q=2*(q/2)+q % 2:=(Nat.div_add_mod q 2).symm;generalize hA:q/2=a at hq2;generalize hB:q % 2=b at hq2 hb;have e1:2*X'*Y=(Y*(2*a+b)+r)*Y':=by rw[←h,hX,←hq2]
 have hlt:X'<Y'*(a+1):=by
  refine Nat.lt_of_mul_lt_mul_left (a:=2*Y) ?_;have e2:(Y*(2*a+b)+r)*Y'< (2*Y*(a+1))*Y':=by
   refine Nat.mul_lt_mul_of_pos_right ?_ hY';have:Y*(2*a+b)≤Y*(2*a+1):=Nat.mul_le_mul_left _ (by omega);have e3:2*Y*(a+1)=Y*(2*a+1)+Y:=by
    rw[Nat.mul_add,Nat.mul_add,Nat.mul_comm 2 Y,Nat.mul_assoc];omega
   omega
  calc 2*Y*X'=2*X'*Y:=by rw[Nat.mul_assoc,Nat.mul_comm Y X',Nat.mul_assoc]
   _< (2*Y*(a+1))*Y':=by rw[e1];exact e2
   _=2*Y*(Y'*(a+1)):=by rw[Nat.mul_assoc,Nat.mul_comm (a+1) Y']
 have hge:Y'*a≤X':=by
  refine Nat.le_of_mul_le_mul_left (show 2*Y*(Y'*a)≤2*Y*X' from ?_) (by omega)
  have c1:2*Y*(Y'*a)=(Y*(2*a))*Y':=by rw[Nat.mul_comm Y' a,←Nat.mul_assoc,Nat.mul_comm 2 Y,Nat.mul_assoc Y 2 a]
  have c2:Y*(2*a)≤Y*(2*a+b)+r:=Nat.le_trans (Nat.mul_le_mul_left _ (by omega)) (Nat.le_add_right _ _);have c3:(Y*(2*a+b)+r)*Y'=2*Y*X':=by rw[←e1,Nat.mul_assoc,Nat.mul_comm X' Y,Nat.mul_assoc]
  rw[c1,←c3];exact Nat.mul_le_mul_right _ c2
 have hd:X'/Y'=a:=Nat.div_eq_of_lt_le (by rw[Nat.mul_comm];exact hge) (by rw[Nat.mul_comm];exact hlt);obtain⟨r',hr'⟩: ∃r',X' % Y'=r':=⟨_,rfl⟩;have hX':X'=Y'*a+r':=by rw[←hd,←hr'];exact(Nat.div_add_mod X' Y').symm
 have hr'Y:r'<Y':=by rw[←hr'];exact Nat.mod_lt _ hY'
 have e4:2*r'*Y=(b*Y+r)*Y':=by
  have e5:2*(Y'*a+r')*Y=(Y*(2*a+b)+r)*Y':=by rw[←hX'];exact e1
  have e6:2*(Y'*a+r')*Y=2*Y'*a*Y+2*r'*Y:=by rw[Nat.mul_add,Nat.add_mul,←Nat.mul_assoc]
  have e7:(Y*(2*a+b)+r)*Y'=2*Y'*a*Y+(b*Y+r)*Y':=by
   rw[Nat.mul_add,Nat.add_assoc,Nat.add_mul,Nat.mul_comm Y b]
   congr 1
   rw[Nat.mul_comm Y (2*a),Nat.mul_assoc,Nat.mul_comm Y Y',←Nat.mul_assoc,Nat.mul_assoc 2 a Y',Nat.mul_comm a Y',←Nat.mul_assoc]
  omega
 rw[hq,hr,hd,hr',hA,hB];have hb01:b=0∨b=1:=by omega
 refine⟨rfl, ?_, ?_⟩
 ·constructor
  ·intro h0
   subst h0;have:(b*Y+r)*Y'=0:=by rw[←e4];simp
   have h2:b*Y+r=0:=by
    rcases Nat.mul_eq_zero.1 this with h|h
    ·exact h
    ·omega
   rcases hb01 with rfl|rfl
   ·exact⟨rfl,by omega⟩
   ·omega
  ·rintro⟨rfl,rfl⟩
   have:2*r'*Y=0:=by rw[e4];simp
   rcases Nat.mul_eq_zero.1 this with h|h<;>omega
 ·unfold dm
  rcases hb01 with rfl|rfl
  ·rw[if_neg (show¬(0:Nat)=1 by omega)]
   have:r'*2<Y':=by
    refine Nat.lt_of_mul_lt_mul_right (a:=Y) ?_;rw[Nat.mul_comm r' 2,e4,Nat.zero_mul,Nat.zero_add,Nat.mul_comm Y' Y];exact Nat.mul_lt_mul_of_pos_right hrY hY'
   rw[if_pos (by omega)]
  ·rw[if_pos (show(1:Nat)=1 from rfl)]
   rw[Nat.one_mul] at e4
   by_cases h0:r=0
   ·rw[if_pos h0]
    subst h0;have:r'*2=Y':=by
     refine Nat.eq_of_mul_eq_mul_right hY ?_;rw[Nat.mul_comm r' 2,e4,Nat.add_zero,Nat.mul_comm]
    rw[if_neg (by omega),if_neg (by omega)]
   ·rw[if_neg h0]
    have:Y'<r'*2:=by
     refine Nat.lt_of_mul_lt_mul_right (a:=Y) ?_;rw[Nat.mul_comm r' 2,e4,Nat.mul_comm Y' Y];exact Nat.mul_lt_mul_of_pos_right (by omega) hY'
    rw[if_neg (by omega),if_pos (by omega)]
theorem jO {M:Nat}(h:M≠0)(n:Int):0<dX M n:=by
 rw[eM];exact Nat.mul_pos (by omega) (bG _)
theorem NH (N M:Nat)(n:Int):eZ N (n+1)*dX M n=2*eZ N n*dX M (n+1):=by
 rw[fw,fw,eM,eM]
 by_cases h:0≤n
 ·rw[show(-n).toNat=0 from by omega,show(-(n+1)).toNat=0 from by omega,show(n+1).toNat=n.toNat+1 from by omega,Nat.pow_succ]
  simp only[Nat.pow_zero,Nat.mul_one];rw[←Nat.mul_assoc N,Nat.mul_comm _ 2,←Nat.mul_assoc 2,Nat.mul_assoc 2]
 ·rw[show n.toNat=0 from by omega,show(n+1).toNat=0 from by omega,show(-n).toNat=(-(n+1)).toNat+1 from by omega,Nat.pow_succ]
  simp only[Nat.pow_zero,Nat.mul_one];rw[←Nat.mul_assoc M,←Nat.mul_assoc N,Nat.mul_comm _ 2,←Nat.mul_assoc 2]
theorem QX {R D L G:Int}{gr qs:Bool}{N1 M1 N2 M2:Nat}{E1 E2 way:Int}(m1:M1≠0)(m2:M2≠0)(ht:dY N1 M1 E1=dY N2 M2 E2)
  (h1:eZ N1 (E1-((ai R:Int)*dj R D L gr N1 M1 E1-1))/dX M1 (E1-((ai R:Int)*dj R D L gr N1 M1 E1-1))=eZ N2 (E2-((ai R:Int)*dj R D L gr N1 M1 E1-1))/dX M2 (E2-((ai R:Int)*dj R D L gr N1 M1 E1-1)))
  (h2:eZ N1 (E1-((ai R:Int)*dj R D L gr N1 M1 E1-1)) % dX M1 (E1-((ai R:Int)*dj R D L gr N1 M1 E1-1))=0↔eZ N2 (E2-((ai R:Int)*dj R D L gr N1 M1 E1-1)) % dX M2 (E2-((ai R:Int)*dj R D L gr N1 M1 E1-1))=0):
  cI R D L G gr qs N1 M1 E1 way=cI R D L G gr qs N2 M2 E2 way:=by
 have hc:dj R D L gr N2 M2 E2=dj R D L gr N1 M1 E1:=by unfold dj;rw[ht]
 obtain⟨c,hC⟩: ∃c,(ai R:Int)*dj R D L gr N1 M1 E1=c:=⟨_,rfl⟩;have s1:=Gk (jO m1 (E1-c+1)) (jO m1 (E1-c)) (NH N1 M1 (E1-c));have s2:=Gk (jO m2 (E2-c+1)) (jO m2 (E2-c)) (NH N2 M2 (E2-c));rw[hC,show E1-(c-1)=E1-c+1 from by omega,show E2-(c-1)=E2-c+1 from by omega] at h1 h2
 rw[h1] at s1;have hz: ∀x:Int,(if eZ N1 (E1-c+1) % dX M1 (E1-c+1)=0 then(0:Int) else x)=if eZ N2 (E2-c+1) % dX M2 (E2-c+1)=0 then 0 else x:=fun x=>by
  by_cases g:eZ N1 (E1-c+1) % dX M1 (E1-c+1)=0
  ·rw[if_pos g,if_pos (h2.1 g)]
  ·rw[if_neg g,if_neg (fun k=>g (h2.2 k))]
 have w:cH R D L gr N1 M1 E1=cH R D L gr N2 M2 E2:=by
  unfold cH shP;rw[hc,hC,s1.1,s2.1]
 have l:(gF R D L gr N1 M1 E1=0)=(gF R D L gr N2 M2 E2=0):=by
  unfold gF shP;rw[hc,hC];refine propext (s1.2.1.trans (Iff.trans ?_ s2.2.1.symm));rw[h2]
 have l':decide (gF R D L gr N1 M1 E1=0)=decide (gF R D L gr N2 M2 E2=0):=by simp only[l]
 have g:rf R D L gr qs N1 M1 E1 way=rf R D L gr qs N2 M2 E2 way:=by
  unfold rf;rw[w];have k1:=s1.2.2;have k2:=s2.2.2;rw[hz] at k1;unfold gF shP;rw[hc,hC,k1,k2]
 have d:fM R D L gr qs N1 M1 E1 way=fM R D L gr qs N2 M2 E2 way:=by
  unfold fM;rw[w,g,l']
 unfold cI;rw[d,l',ht,hc]
theorem Zv {J:Int}{N1 M1 N2 M2:Nat}{E1 E2:Int}(n1:N1≠0)(m1:M1≠0)(n2:N2≠0)(m2:M2≠0)(h:ut J N1 M1 E1 N2 M2 E2)(hJ:J≤dY N1 M1 E1):dY N1 M1 E1=dY N2 M2 E2:=by
 have key: ∀{N M:Nat} {E:Int} (i:Int),N≠0→M≠0→(1≤eZ N (E-i)/dX M (E-i)↔i≤dY N M E):=fun {N M E} i hN hM=>by
  have:=BD N M (E-i) 0 hN hM;rw[qD N M E];rw[Nat.pow_zero] at this
  constructor
  ·intro g;have:=this.1 g;omega
  ·intro g;exact this.2 (by omega)
 have a1:=(key (E:=E1) (dY N1 M1 E1) n1 m1).2 (Int.le_refl _);have a2:=fun g=>(key (E:=E1) (dY N1 M1 E1+1) n1 m1).1 g
 rw[(h _ hJ).1] at a1;have b1:=(key (E:=E2) _ n2 m2).1 a1;have b2: ¬dY N1 M1 E1+1≤dY N2 M2 E2:=fun g=>by
  have:=(key (E:=E2) _ n2 m2).2 g;rw[←(h _ (by omega)).1] at this;have:=a2 this;omega
 omega
theorem AC {R D L G J:Int}{gr qs:Bool}{N1 M1 N2 M2:Nat}{E1 E2 way:Int}(n1:N1≠0)(m1:M1≠0)(n2:N2≠0)(m2:M2≠0)(hD:1≤D)(hw:ai R*D.toNat≤64)(h:ut J N1 M1 E1 N2 M2 E2)(hJ:J+64≤dY N1 M1 E1):
  cI R D L G gr qs N1 M1 E1 way=cI R D L G gr qs N2 M2 E2 way:=by
 have hc:J≤(ai R:Int)*dj R D L gr N1 M1 E1-1:=by
  have h1:aT R D (dY N1 M1 E1)≤dj R D L gr N1 M1 E1:=by
   unfold dj
   split
   ·rename_i g
    simp at g;omega
   ·omega
  have h2:(ai R:Int)*aT R D (dY N1 M1 E1)≤(ai R:Int)*dj R D L gr N1 M1 E1:=Int.mul_le_mul_of_nonneg_left h1 (by omega);have h3:dY N1 M1 E1-63≤(ai R:Int)*aT R D (dY N1 M1 E1):=by
   unfold aT;have hw1:=eN R;have e:=Int.mul_ediv_add_emod (dY N1 M1 E1) (ai R);have l:=Int.emod_lt_of_pos (dY N1 M1 E1) (b:=(ai R:Int)) (by omega);rw[Int.mul_sub];have hd:((ai R*D.toNat:Nat):Int)=(ai R:Int)*D:=by rw[Int.natCast_mul,Int.toNat_of_nonneg (by omega)]
   rw[Int.mul_sub,Int.mul_one];omega
  omega
 obtain⟨g1,g2⟩:=h _ hc;exact QX m1 m2 (Zv n1 m1 n2 m2 h (by omega)) g1 g2
theorem qG {X1 Y1 X2 Y2:Nat}(h1:0<Y1)(h2:0<Y2)(h:X1*Y2=X2*Y1):X1/Y1=X2/Y2∧(X1 % Y1=0↔X2 % Y2=0):=by
 have key: ∀{X1 Y1 X2 Y2:Nat},0<Y1→0<Y2→X1*Y2=X2*Y1→X2/Y2≤X1/Y1∧(X2 % Y2=0→X1 % Y1=0):=fun {X1 Y1 X2 Y2} h1 h2 h=>by
  refine⟨?_,fun g=> ?_⟩
  ·refine(Nat.le_div_iff_mul_le h1).2 ?_
   refine Nat.le_of_mul_le_mul_right ?_ h2;rw[h,Nat.mul_assoc,Nat.mul_comm Y1 Y2,←Nat.mul_assoc];exact Nat.mul_le_mul_right _ (Nat.div_mul_le_self X2 Y2)
  ·obtain⟨k,hk⟩:=Nat.dvd_of_mod_eq_zero g
   have:X1=Y1*k:=by
    refine Nat.eq_of_mul_eq_mul_right h2 ?_;rw[h,hk,Nat.mul_assoc,Nat.mul_comm k Y1,Nat.mul_comm Y2,Nat.mul_assoc]
   rw[this];exact Nat.mul_mod_right _ _
 have a:=key h1 h2 h;have b:=key h2 h1 h.symm;exact⟨Nat.le_antisymm b.1 a.1,b.2,a.2⟩
theorem aep {N1 M1 N2 M2:Nat}{E1 E2:Int}(K:Nat)(m1:M1≠0)(m2:M2≠0)(k1: -(K:Int)≤E1)(k2: -(K:Int)≤E2)(h:N1*M2*2^ (E1+K).toNat=N2*M1*2^ (E2+K).toNat)(J:Int):ut J N1 M1 E1 N2 M2 E2:=fun j _=>by
 refine qG (jO m1 _) (jO m2 _) (Nat.le_antisymm ?_ ?_)
 ·exact Gx k1 k2 (show LeQ K N1 M1 E1 N2 M2 E2 from Nat.le_of_eq h)
 ·exact Gx k2 k1 (show LeQ K N2 M2 E2 N1 M1 E1 from Nat.le_of_eq h.symm)
theorem fromInt_neg (M:Int)(n k wy f1 e1:Int)(N:Nat)(st:ByteArray)(w:World)(hn:n<0)(hM:IntKind.u64.wrap n=M)(hN:IntKind.u64.wrap (-M)=(N:Int))
  (HW: ∀w1,yB w w1→yC 53 #[.int .u64 N] w1 fun z w'=> ∃v,z= .returned v∧Rd w' .u32 v (Dg.dg 4294967296 N)∧yB w1 w')
  (HA: ∀ao ac q w1,yB w w1→Rd w1 .u32 (yT ao N ac) (Dg.dg 4294967296 N)→au w1 q 108 [.int .u32 1]→yC 40 #[yi k,yrV true (yT ao N ac) (.slice (some ⟨q,0,none⟩) 1 1) 0,yi wy] w1 (yR w1 (.tuple #[.string st,yi f1,yi e1]))):
  yC 17 #[yi n,yi k,yi wy] w (yR w (.tuple #[.string st,yi f1,yi e1])):=by
 replace HW:Hid _:=HW;replace HA:Hid _:=HA
 go_enter func17,ntmps17
 have b0:=Below.refl w.heap.size w
 go_wp2_with fail
 refine(HW.out _ b0).mono ?_;rintro zz w1 ⟨v13,rfl,r14,bb2⟩;have b5:=aa b0 bb2;obtain⟨ao,ac,hv⟩:=r14.shape;subst hv;clear b0 bb2 HW;have al6:=af w1 (.cells #[.int .u32 1] 108);have q7:=ah w1 [.int .u32 1] 108;have r8:=r14.l al6;have b9:=aa b5 al6
 go_wp2_with fail
 refine(HA.out _ _ _ _ b9 r8 q7).mono ?_;rintro zz w10 ⟨rfl,bb11⟩;have b12:=aa b9 bb11;clear q7 r8 b9 bb11 HA r14 b5 al6
 go_wp2
 go_ret3
 exact⟨by simp,b12⟩
theorem round_bare {R D L G:Int}{gr:Bool}{way:Int}(t:ak)(h0:t.n≠0)(hD:1≤D)(hw:ai R*D.toNat≤64)(s:Bool):
  cI R D L G gr s (bare t).n 1 (bare t).e way=cI R D L G gr s t.n 1 t.e way:=by
 obtain⟨b1,b2,-⟩:=gN h0;obtain⟨m,hm⟩:=fO h0;have hn:(bare t).n=2*m+1:=by
  unfold bare;rw[if_neg h0];exact lI hm
 refine AC b1 (by omega) h0 (by omega) hD hw (J:=dY (bare t).n 1 (bare t).e-64) (aep ((max (-t.e) 0).toNat) (by omega) (by omega) (by omega) (by omega) ?_ _) (by omega);rw[hn,b2,Nat.mul_one,Nat.mul_one,show(t.e+(tz t.n:Int)+((max (-t.e) 0).toNat:Int)).toNat=tz t.n+(t.e+((max (-t.e) 0).toNat:Int)).toNat by omega,Nat.pow_add]
 generalize(t.e+((max (-t.e) 0).toNat:Int)).toNat=q at*
 conv=>rhs;rw[hm]
 rw[←Nat.mul_assoc,Nat.mul_comm (2*m+1)]
theorem plc_bare {k:Nat}(hk:1≤k∧k≤8)(way:Int)(t:ak)(h0:t.n≠0):fY k way (bare t)=fY k way t:=by
 obtain⟨-,-,d1,-,-,-,-,-,w64,-,-,-⟩:=eR hk;have hs:(bare t).s=t.s:=by unfold bare;rw[if_neg h0]
 unfold fY;rw[hs];exact round_bare t h0 (by omega) (by rw[Int.toNat_natCast];exact w64) t.s
theorem plus_bare (a b:ak):bare (cO a b)=bare (aG a b):=by
 have k0: -((a.e.natAbs+b.e.natAbs:Nat):Int)≤a.e:=by omega
 have k1: -((a.e.natAbs+b.e.natAbs:Nat):Int)≤b.e:=by omega
 refine fH (zy k0 k1) (eS k0 k1) ?_;rw[zx k0 k1,dH k0 k1]
theorem bare_0 {t:ak}(h:t.n=0):bare t=⟨false,0,0⟩:=if_pos h
def FromI (d x:Nat)(ys:List Nat):Prop:=Dg.vl 65536 ys+65536^ys.length*x=d∧Dg.Small 65536 ys∧(x=0→Dg.Norm ys)
theorem vl_snoc (B:Nat): ∀(l:List Nat) (x:Nat),Dg.vl B (l++[x])=Dg.vl B l+B^l.length*x
 | [],x=>by simp[Dg.vl]
 |a::l,x=>by
  show a+B*Dg.vl B (l++[x])=a+B*Dg.vl B l+B^ (l.length+1)*x
  rw[vl_snoc B l x,Nat.mul_add,Nat.pow_succ,Nat.mul_comm (B^l.length) B,Nat.mul_assoc,Nat.add_assoc]
theorem fromI_step {d x:Nat}{ys:List Nat}(h:FromI d x ys)(hx:x≠0):FromI d (x/65536) (ys++[x % 65536]):=by
 obtain⟨h1,h2,-⟩:=h;refine⟨?_, ?_,fun h0=> ?_⟩
 ·rw[vl_snoc,List.length_append,List.length_singleton,Nat.pow_succ,Nat.mul_assoc,Nat.add_assoc,←Nat.mul_add,show x % 65536+65536*(x/65536)=x by omega]
  exact h1
 ·intro i
  rcases Nat.lt_trichotomy i ys.length with c|c|c
  ·have:=h2 i
   rw[List.getD_eq_getElem?_getD,List.getElem?_append_left c,←List.getD_eq_getElem?_getD];exact this
  ·subst c
   rw[List.getD_eq_getElem?_getD,List.getElem?_append_right (Nat.le_refl _)];simp;omega
  ·rw[List.getD_eq_getElem?_getD,List.getElem?_eq_none (by simp;omega)]
   simp
 ·have e:x % 65536=x:=by omega
  rw[e];intro _;simp[hx]
theorem fromI_end {d:Nat}{ys:List Nat}(h:FromI d 0 ys):ys=Dg.dg 65536 d:=by
 obtain⟨h1,h2,h3⟩:=h;rw[Nat.mul_zero,Nat.add_zero] at h1;rw[←h1,Dg.dg_vl 65536 (by omega) ys h2 (h3 rfl)]
theorem fromI_len {d x:Nat}{ys:List Nat}(h:FromI d x ys)(hx:x≠0)(hd:d<18446744073709551616):ys.length≤3:=by
 refine Nat.le_of_not_lt fun c=> ?_
 have h1:65536^4≤65536^ys.length:=Nat.pow_le_pow_right (by omega) c;have h2:65536^ys.length*1≤65536^ys.length*x:=Nat.mul_le_mul_left _ (by omega);have h3:=h.1;have h4:(65536:Nat)^4=18446744073709551616:=by decide
 omega
theorem fromN_any (d:Nat)(w:World)(hd:d<9223372036854775808):yC 55 #[yi d] w (cG w d):=by
 obtain⟨i0,hi,hz0,hz1,hz2⟩:=info_parts Tryz.infoI64
 go_enter func55,ntmps55
 go_wp2
 go_loopw [0,3] (fun nv av wr=> ∃(x:Nat) (ys:List Nat),x≤d∧nv=yi x∧Own wr w.heap.size 3 .i64 av ys∧Hid (FromI d x ys)∧yB w wr) (fun nv _ _=>(intOf nv).toNat)
 case atStart=>exact⟨d,[],Nat.le_refl _,rfl,aQ _ _ _ _,⟨by show 0+65536^0*d=d;omega,fun i=>by simp,fun _ c=>absurd rfl c⟩,Below.refl _ _⟩
 case round=>
  obtain⟨x,ys,hxd,rfl,own,HI,bel⟩:=hrel
  by_cases hx:x=0
  ·subst hx
   have he:=fromI_end HI.out;subst he;clear HI
   go_wp2
   go_ret
   exact⟨_,rfl,own.rd,bel⟩
  ·have hbs:=bel.size
   have hl:=fromI_len HI.out hx (by omega);have HS:Hid _:=fromI_step HI.out hx;have e1:(x:Int) % 65536=((x % 65536:Nat):Int):=by omega
   have e2:(x:Int)/65536=((x/65536:Nat):Int):=by omega
   have hpos:(0:Int)< (x:Int):=by omega
   have hlt:x/65536<x:=by omega
   obtain⟨r,er⟩: ∃r,x % 65536=r:=⟨_,rfl⟩;obtain⟨q,eq⟩: ∃q,x/65536=q:=⟨_,rfl⟩;rw[er] at e1 HS;rw[eq] at e2 HS hlt;have hql:q≤d:=by omega
   clear HI er eq
   go_wp2_with (at_builtin;refine wpList_append_own _ rfl _ _ 33 rfl w.heap.size 3 i0 (yi 0) 1 8 underlying33 hi hz0 hz1 hz2 rfl (by decide) _ _ _ rfl (World.ownsRow.alloc own _) ⟨wr.heap.size,0,none⟩ 1 1 [yi (r:Int)] rfl rfl ?c1 ?c2 ?c3 ?c4 ?c5 ?_)
   case c1=>exact cell_one_new _ _ _
   case c2=>intro u hu;simp at hu;subst hu;rfl
   case c3=>unfold maxLen;omega
   case c4=>omega
   case c5=>simp;omega
   intro v' w3 hown' hgrow _;have R:=iW bel own hown' hgrow;clear hown' hgrow own
   go_wp2
   go_roundw
   case rel=>exact⟨q,ys++[r],hql,rfl,R.1,HS,R.2⟩
   case measure=>simp[intOf];omega
theorem opened_none (n way e:Int)(ok y:Bool)(f0 f1 f2 R D L G fam:Int)(gr:Bool)(w:World)(he:e=if ok=true then(if y=true then 0 else 6) else 6)
  (HF:yJ 10 #[yi n] (.tuple #[yhV f0 f1 f2 R D L G gr fam,.bool ok]))
  (HY: ∀w1,yC 12 #[yi way] w1 fun z w'=>z= .returned (.bool y)∧w'=w1):
  yC 18 #[yi n,yi way,yN] w (yR w (.tuple #[yN,yi e])):=by
 replace HF:Hid _:=HF;replace HY:Hid _:=HY;subst he
 cases ok
 ·go_enter func18,ntmps18
  go_wp2_with fail
  refine(HF.out _).mono ?_;rintro zz w1 ⟨rfl,b1⟩;have b2:=aa b1 (af w1 (.cells (yhA f0 f1 f2 R D L G gr fam) 28));clear b1
  go_wp2
  go_ret2
  exact⟨by simp,b2⟩
 ·cases y
  all_goals
   go_enter func18,ntmps18
   go_wp2_with fail
   refine(HF.out _).mono ?_;rintro zz w1 ⟨rfl,b1⟩;have b2:=aa b1 (af w1 (.cells (yhA f0 f1 f2 R D L G gr fam) 28));clear b1
   go_wp2
   refine wp_loop_rounds 1 ?_;rw[rounds_succ]
   go_wp2_with fail
   refine(HY.out _).mono ?_;rintro zz w3 ⟨rfl,rfl⟩
   go_wp2
   go_ret2
   exact⟨by simp,b2⟩
theorem refFitD_zero (n wy e:Int)(s zg:Bool)(xo:Option Addr)(xc:Nat)(w:World)
  (HZ:yJ 49 #[yi n,.bool false] (yoV 1 zg false yN 0)):
  yC 19 #[yi n,ydV s (.slice xo 0 xc) e,yi wy] w (RVF w 1 zg ⟨false,0,0⟩ 0):=by
 replace HZ:Hid _:=HZ;obtain⟨W4,hW5,q1,q2,b3⟩:=iG w (ydL s (.slice xo 0 xc) e) 35 (yoL 0 false false yN 0) 37;replace hW5:Hid _:=hW5
 go_enter func19,ntmps19
 go_upto_region 1 with fail
 rw[hW5.out];clear hW5;have c6:=q1.c 1 rfl
 go_wp2_with fail
 refine(HZ.out _).mono ?_;rintro zz w7 ⟨rfl,bb8⟩;have q9:=q2.l bb8;have b10:=aa b3 bb8;clear q1 q2 b3 bb8 HZ c6;have hf:=dL (P:=Tryz.prog) q9 b10 (by omega) underlying37 rfl (by kernel_rfl) (yi 1) (.bool zg) (.bool false) yN (yi 0);have HH:Hid (_∧_):=⟨hf.1,hf.2.1⟩;obtain⟨⟨z0,z1,z2,z3,z4⟩,y0,y1,y2,y3,y4⟩:=dN q9;clear hf q9 b10
 go_wp2
 obtain⟨hl,bR⟩:=HH.out;exact bodyPost_ret (aj results19 rfl rfl hl) rfl ⟨_,rfl,aN _ _,bR⟩
theorem lwhole_W (n qh qn rn:Int)(H Q:Nat)(u v t:ak)(w:World)(h1:IntKind.i64.wrap (n.tdiv 2)=qh)(h2:IntKind.i64.wrap (-qh)=qn)(h3:max qh qn=(H:Int))(h4:IntKind.i64.wrap (-(n.tmod 2))=rn)(h5:max (n.tmod 2) rn=(Q:Int))
  (HFa: ∀w1,yB w w1→yC 55 #[yi H] w1 (cG w1 H))
  (HFb: ∀w1,yB w w1→yC 55 #[yi Q] w1 (cG w1 Q))
  (HBa: ∀ho hc w1,yB w w1→Rd w1 .i64 (yS ho H hc) (Dg.dg 65536 H)→yC 33 #[ydV (decide (n<0)) (yS ho H hc) 1] w1 (dr w1 u))
  (HBb: ∀ro rc w1,yB w w1→Rd w1 .i64 (yS ro Q rc) (Dg.dg 65536 Q)→yC 33 #[ydV (decide (n<0)) (yS ro Q rc) 0] w1 (dr w1 v))
  (HP: ∀uo uc vo vc w1,yB w w1→Rd w1 .i64 (yS uo u.n uc) (Dg.dg 65536 u.n)→Rd w1 .i64 (yS vo v.n vc) (Dg.dg 65536 v.n)→yC 24 #[yMV u uo uc,yMV v vo vc] w1 (dr w1 t)):
  yC 20 #[yi n] w (dr w t):=by
 replace HFa:Hid _:=HFa;replace HFb:Hid _:=HFb;replace HBa:Hid _:=HBa;replace HBb:Hid _:=HBb;replace HP:Hid _:=HP;obtain⟨W3,hW4,q1,b2⟩:=cA w (ydL false yN 0) 35;replace hW4:Hid _:=hW4
 go_enter func20,ntmps20
 go_upto_region 1 with fail
 rw[hW4.out];clear hW4
 go_wp2_with fail
 refine(HFa.out _ b2).mono ?_;rintro zz w5 ⟨v1x7,rfl,r1x8,bb6⟩;have q9:=q1.l bb6;have b10:=aa b2 bb6;obtain⟨ho,hc,hv⟩:=r1x8.shape;subst hv;clear q1 b2 bb6 HFa;obtain⟨W13,hW12,q14,al11⟩:=cA w5 (ydL (decide (n<0)) (yS ho H hc) 1) 35;replace hW12:Hid _:=hW12;have hl15:w.heap.size≤w5.heap.size:=b10.size;have hl16:=q9.lt;have q17:=q9.l al11;have r18:=r1x8.l al11;have b19:=aa b10 al11;clear q9 r1x8 b10 al11
 go_upto_region 2 with fail
 rw[hW12.out];clear hW12
 go_wp2_with fail
 refine(HFb.out _ b19).mono ?_;rintro zz w20 ⟨v1x22,rfl,r1x23,bb21⟩;have q24:=q17.l bb21;have q25:=q14.l bb21;have r26:=r18.l bb21;have b27:=aa b19 bb21;obtain⟨ro,rc,hv⟩:=r1x23.shape;subst hv;clear q17 q14 r18 b19 bb21 HFb;obtain⟨W30,hW29,q31,al28⟩:=cA w20 (ydL (decide (n<0)) (yS ro Q rc) 0) 35;replace hW29:Hid _:=hW29;have hl32:w.heap.size≤w20.heap.size:=b27.size;have hl33:=q24.lt;have hl34:=q25.lt;have q35:=q24.l al28;have q36:=q25.l al28;have r37:=r26.l al28;have r38:=r1x23.l al28;have b39:=aa b27 al28;clear q24 q25 r26 r1x23 b27 al28
 go_upto_region 3 with fail
 rw[hW29.out];clear hW29
 go_upto_region 3 with fail
 have bW40:yB W30 W30.drew:=(Below.refl _ _).drew;have q41:=q35.l bW40;have q42:=q36.l bW40;have q43:=q31.l bW40;have r44:=r37.l bW40;have r45:=r38.l bW40;have b46:=aa b39 bW40;clear q35 q36 q31 r37 r38 b39 bW40;refine wp_region_held_drew (S:=fun wq=>au wq w5.heap.size 35 (ydL (decide (n<0)) (yS ho H hc) 1)∧au wq w20.heap.size 35 (ydL (decide (n<0)) (yS ro Q rc) 0)) (by kernel_rfl) ⟨q42,q43⟩ (fun hS0=> ?_)
 generalize W30.drew=WD47 at q41 q42 q43 r44 r45 b46 hS0⊢;refine tq 0 (ydV (decide (n<0)) (yS ho H hc) 1) rfl (fun _ hw0=>fy 35 (.tmp 3) rfl w5.heap.size 0 (by kernel_rfl) _ _ hw0.1.range underlying35 rfl (by kernel_rfl)) hS0 ?_
 refine tq 2 (ydV (decide (n<0)) (yS ro Q rc) 0) rfl (fun _ hw0=>fy 35 (.tmp 4) rfl w20.heap.size 0 (by kernel_rfl) _ _ hw0.2.range underlying35 rfl (by kernel_rfl)) hS0 ?_
 refine wpAnyH_ready (rs:=[1]) (by kernel_rfl) (by simp) ?_;refine AllReadyH.cons rfl (fun K hK=> ?_) AllReadyH.nil
 go_simp
 refine(HBa.out _ _ _ b46 r44).mono ?_;rintro zz w48 ⟨v1x50,rfl,r1x51,bb49⟩;have q52:=q41.l bb49;have q53:=q42.l bb49;have q54:=q43.l bb49;have r55:=r44.l bb49;have r56:=r45.l bb49;have b57:=aa b46 bb49;obtain⟨uo,uc,hv⟩:=r1x51.shape;subst hv;clear q41 q42 q43 r44 r45 b46 bb49 HBa;refine hK.out _ _ ⟨q53,q54⟩ (fun hS58=> ?_)
 clear hK K;refine wpAnyH_ready (rs:=[3]) (by kernel_rfl) (by simp) ?_;refine AllReadyH.cons rfl (fun K hK=> ?_) AllReadyH.nil
 go_simp
 refine(HBb.out _ _ _ b57 r56).mono ?_;rintro zz w59 ⟨v1x61,rfl,r1x62,bb60⟩;have q63:=q52.l bb60;have q64:=q53.l bb60;have q65:=q54.l bb60;have r66:=r55.l bb60;have r67:=r56.l bb60;have r68:=r1x51.l bb60;have b69:=aa b57 bb60;obtain⟨vo,vc,hv⟩:=r1x62.shape;subst hv;clear q52 q53 q54 r55 r56 r1x51 b57 bb60 HBb;refine hK.out _ _ ⟨q64,q65⟩ (fun hS70=> ?_)
 clear hK K;refine wpAnyH_ready (rs:=[4]) (by kernel_rfl) (by simp) ?_;refine AllReadyH.cons rfl (fun K hK=> ?_) AllReadyH.nil
 go_simp
 refine(HP.out _ _ _ _ _ b69 r68 r1x62).mono ?_;rintro zz w71 ⟨v1x73,rfl,r1x74,bb72⟩;have q75:=q63.l bb72;have q76:=q64.l bb72;have q77:=q65.l bb72;have r78:=r66.l bb72;have r79:=r67.l bb72;have r80:=r68.l bb72;have r81:=r1x62.l bb72;have b82:=aa b69 bb72;obtain⟨mo,mc,hv⟩:=r1x74.shape;subst hv;clear q63 q64 q65 r66 r67 r68 r1x62 b69 bb72 HP;refine hK.out _ _ ⟨q76,q77⟩ (fun hS83=> ?_)
 clear hK K;refine wpAnyH_ready (rs:=[5]) (by kernel_rfl) (by simp) ?_;refine AllReadyH.cons rfl (fun K hK=> ?_) AllReadyH.nil
 have bu:But w.heap.size w71 (w71.setCells w.heap.size 0 (yML t mo mc)):=de _ _ _ _;have hth:w71.there w.heap.size 0 3:=dD q75;have q84:au (w71.setCells w.heap.size 0 (yML t mo mc)) w.heap.size 35 (yML t mo mc):=q75.sets _ rfl;have r85:=bu.rd r78 (cq r78 (Dg.norm_dg _ _ (by omega)) q75 (fun x hx n hn=>by simp at hx;rcases hx with rfl|rfl|rfl<;>simp;all_goals omega))
 have r86:=bu.rd r79 (cq r79 (Dg.norm_dg _ _ (by omega)) q75 (fun x hx n hn=>by simp at hx;rcases hx with rfl|rfl|rfl<;>simp;all_goals omega))
 have r87:=bu.rd r80 (cq r80 (Dg.norm_dg _ _ (by omega)) q75 (fun x hx n hn=>by simp at hx;rcases hx with rfl|rfl|rfl<;>simp;all_goals omega))
 have r88:=bu.rd r81 (cq r81 (Dg.norm_dg _ _ (by omega)) q75 (fun x hx n hn=>by simp at hx;rcases hx with rfl|rfl|rfl<;>simp;all_goals omega))
 have r89:=bu.rd r1x74 (cq r1x74 (Dg.norm_dg _ _ (by omega)) q75 (fun x hx n hn=>by simp at hx;rcases hx with rfl|rfl|rfl<;>simp;all_goals omega))
 have q90:=bu.loc q76 (by omega);have q91:=bu.loc q77 (by omega);have b92:=bu.below b82 (by omega);rw[if_pos (by kernel_rfl)];refine wp_store_mid 35 (.tmp 2) (.tmp 29) rfl w.heap.size 0 (yMA t mo mc) (by kernel_rfl) (by kernel_rfl) hth (by kernel_rfl) (by simp[Value.oneCell']) ?_;refine hK.out _ _ ⟨q90,q91⟩ (fun hS93=> ?_)
 clear hK K;clear q75 r78 r79 r80 r81 r1x74 q76 q77 b82 bu hth;refine wpAnyH_done (by kernel_rfl) ?_ _;clear hS0 hS58 hS70 hS83 hS93;change Exit.then _ _ _ _ (World.setCells w71 w.heap.size 0 (yML t mo mc));generalize World.setCells w71 w.heap.size 0 (yML t mo mc)=W94 at q84 q90 q91 r85 r86 r87 r88 r89 b92⊢;simp only[Act.put,List.getElem_toArray,List.getElem_cons_succ,List.getElem_cons_zero];have hl:=run_loadVar_mid (P:=Tryz.prog) _ (w.heap.size) 0 35 (yML t mo mc) _ q84.range underlying35 rfl (by kernel_rfl)
 go_wp2
 exact bodyPost_ret (br results20 rfl hl) rfl ⟨_,rfl,r89,b92⟩
theorem fromInts_err (e:Int)(n k wy f1 e1:Int)(st:ByteArray)(w:World)(he:(e==0)=false)
  (HA:yH w 17 #[yi n,yi k,yi wy] (.tuple #[.string st,yi f1,yi e1]))
  (HO:yH w 18 #[yi k,yi wy,yN] (.tuple #[yN,yi e]))
  (HB:yH w 15 #[] (.bool true))
  (HI:yH w 16 #[yi k,.string st,yi f1,yi e1,yi e,yoV 0 false false yN 0,yi 0] (.bool true)):
  yC 4 #[yi n,yi k,yi wy] w (yR w (.bool true)):=by
 replace HA:Hid _:=HA;replace HO:Hid _:=HO;replace HB:Hid _:=HB;replace HI:Hid _:=HI
 go_enter func4,ntmps4
 have b0:=Below.refl w.heap.size w
 go_wp2_with fail
 refine(HA.out _ b0).mono ?_;rintro zz w1 ⟨rfl,bb2⟩;have b3:=aa b0 bb2;clear b0 bb2 HA
 go_wp2_with fail
 refine(HO.out _ b3).mono ?_;rintro zz w4 ⟨rfl,bb5⟩;have b6:=aa b3 bb5;clear b3 bb5 HO;obtain⟨W9,hW8,q10,al7⟩:=cA w4 (yoL 0 false false yN 0) 37;replace hW8:Hid _:=hW8;have hl11:w.heap.size≤w4.heap.size:=b6.size;have b12:=aa b6 al7;clear b6 al7
 go_upto_region 4 with fail
 rw[hW8.out];clear hW8
 go_wp2_with fail
 refine(HB.out _ b12).mono ?_;rintro zz w13 ⟨rfl,bb14⟩;have q15:=q10.l bb14;have b16:=aa b12 bb14;clear q10 b12 bb14 HB;obtain⟨c17,c18,c19,c20,c21⟩:=q15.cs5
 go_wp2_with fail
 refine(HI.out _ b16).mono ?_;rintro zz w22 ⟨rfl,bb23⟩;have b24:=aa b16 bb23;clear q15 b16 bb23 HI c17 c18 c19 c20 c21
 go_wp2
 go_ret
 exact⟨by simp,b24⟩
theorem fromInts_ok (c fl:Int)(g:Bool)(u t:ak)(n k wy f1 e1:Int)(st:ByteArray)(w:World)
  (HA:yH w 17 #[yi n,yi k,yi wy] (.tuple #[.string st,yi f1,yi e1]))
  (HO:yH w 18 #[yi k,yi wy,yN] (.tuple #[yN,yi 0]))
  (HW: ∀w1,yB w w1→yC 20 #[yi n] w1 (dr w1 u))
  (HD: ∀uo uc w1,yB w w1→Rd w1 .i64 (yS uo u.n uc) (Dg.dg 65536 u.n)→yC 19 #[yi k,yMV u uo uc,yi wy] w1 (RVF w1 c g t fl))
  (HB:yH w 15 #[] (.bool true))
  (HI: ∀so sc w1,yB w w1→Rd w1 .i64 (yS so t.n sc) (Dg.dg 65536 t.n)→yC 16 #[yi k,.string st,yi f1,yi e1,yi 0,yEV c g t so sc,yi fl] w1 (yR w1 (.bool true))):
  yC 4 #[yi n,yi k,yi wy] w (yR w (.bool true)):=by
 replace HA:Hid _:=HA;replace HO:Hid _:=HO;replace HW:Hid _:=HW;replace HD:Hid _:=HD;replace HB:Hid _:=HB;replace HI:Hid _:=HI
 go_enter func4,ntmps4
 have b0:=Below.refl w.heap.size w
 go_wp2_with fail
 refine(HA.out _ b0).mono ?_;rintro zz w1 ⟨rfl,bb2⟩;have b3:=aa b0 bb2;clear b0 bb2 HA
 go_wp2_with fail
 refine(HO.out _ b3).mono ?_;rintro zz w4 ⟨rfl,bb5⟩;have b6:=aa b3 bb5;clear b3 bb5 HO;obtain⟨W9,hW8,q10,al7⟩:=cA w4 (yoL 0 false false yN 0) 37;replace hW8:Hid _:=hW8;have hl11:w.heap.size≤w4.heap.size:=b6.size;have b12:=aa b6 al7;clear b6 al7
 go_upto_region 4 with fail
 rw[hW8.out];clear hW8
 go_wp2_with fail
 refine(HW.out _ b12).mono ?_;rintro zz w13 ⟨v1x15,rfl,r1x16,bb14⟩;have q17:=q10.l bb14;have b18:=aa b12 bb14;obtain⟨uo,uc,hv⟩:=r1x16.shape;subst hv;clear q10 b12 bb14 HW
 go_wp2_with fail
 refine(HD.out _ _ _ b18 r1x16).mono ?_;rintro zz w19 ⟨v1x21,rfl,r1x22,bb20⟩;have q23:=q17.l bb20;have b24:=aa b18 bb20;obtain⟨so,sc,hv⟩:=r1x22.shape;subst hv;clear q17 r1x16 b18 bb20 HD;have bu:=((((ag w19 w4.heap.size 0 (yi c)).trans (ag _ w4.heap.size 1 (.bool g))).trans (ag _ w4.heap.size 2 (.bool t.s))).trans (ag _ w4.heap.size 3 (yS so t.n sc))).trans (ag _ w4.heap.size 4 (yi t.e));have q25:au (((((w19.setCell ⟨w4.heap.size,0,none⟩ (yi c)).setCell ⟨w4.heap.size,1,none⟩ (.bool g)).setCell ⟨w4.heap.size,2,none⟩ (.bool t.s)).setCell ⟨w4.heap.size,3,none⟩ (yS so t.n sc)).setCell ⟨w4.heap.size,4,none⟩ (yi t.e)) w4.heap.size 37 (yEL c g t so sc):=(((((q23.set 0 (yi c)).set 1 (.bool g)).set 2 (.bool t.s)).set 3 (yS so t.n sc)).set 4 (yi t.e));have c26:=q23.c 0 rfl;have y27:=q23.f 0;have c28:=q23.c 1 rfl;have y29:=q23.f 1;have c30:=q23.c 2 rfl;have y31:=q23.f 2;have c32:=q23.c 3 rfl;have y33:=q23.f 3;have c34:=q23.c 4 rfl;have y35:=q23.f 4;have r36:=bu.rd r1x22 (mu r1x22 q23);have b37:=bu.below b24 (by omega);clear bu
 go_upto_region 6 with fail
 generalize((((w19.setCell ⟨w4.heap.size,0,none⟩ (yi c)).setCell ⟨w4.heap.size,1,none⟩ (.bool g)).setCell ⟨w4.heap.size,2,none⟩ (.bool t.s)).setCell ⟨w4.heap.size,3,none⟩ (yS so t.n sc)).setCell ⟨w4.heap.size,4,none⟩ (yi t.e)=W38 at q25 r36 b37⊢;clear q23 r1x22 b24 c26 y27 c28 y29 c30 y31 c32 y33 c34 y35
 go_wp2_with fail
 refine(HB.out _ b37).mono ?_;rintro zz w39 ⟨rfl,bb40⟩;have q41:=q25.l bb40;have r42:=r36.l bb40;have b43:=aa b37 bb40;clear q25 r36 b37 bb40 HB;obtain⟨c44,c45,c46,c47,c48⟩:=q41.cs5
 go_wp2_with fail
 refine(HI.out _ _ _ b43 r42).mono ?_;rintro zz w49 ⟨rfl,bb50⟩;have b51:=aa b43 bb50;clear q41 r42 b43 bb50 HI c44 c45 c46 c47 c48
 go_wp2
 go_ret
 exact⟨by simp,b51⟩
end Go.Proofs.YtpainhklfoaniaaGreatDoor

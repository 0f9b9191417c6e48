/-
  Texts laid together: Gg1, Gg2, Gg3, Gg4, Gg5, Gg6, Gg8.
-/
import Derived.Test.YtibnjbojkjablaaDoorGg16
namespace Go.Proofs.YtibnjbojkjablaaDoor
open Go.RowKit
def LeQ (K:Nat)(N1 M1:Nat)(E1:Int)(N2 M2:Nat)(E2:Int):Prop:=N1*M2*2^ (E1+K).toNat≤N2*M1*2^ (E2+K).toNat
theorem CL (a b:Nat):(2:Nat)^ (a+b)=2^a*2^b:=Nat.pow_add ..
theorem VB {K N1 M1 N2 M2:Nat}{E1 E2:Int}(a1:N1≠0)(b1:M1≠0)(a2:N2≠0)(b2:M2≠0)(k1: -(K:Int)≤E1)(k2: -(K:Int)≤E2)(h:LeQ K N1 M1 E1 N2 M2 E2):dY N1 M1 E1≤dY N2 M2 E2:=by
 have h1:=(BC N1 M1 (-(dY N1 M1 0)).toNat (dY N1 M1 0).toNat a1 b1).2 (by omega);obtain⟨a,ha⟩: ∃a,(-(dY N1 M1 0)).toNat=a:=⟨_,rfl⟩;obtain⟨b,hb⟩: ∃b,(dY N1 M1 0).toNat=b:=⟨_,rfl⟩;rw[ha,hb] at h1;have h2:M2*2^ (b+(E1+K).toNat)≤N2*2^ (a+(E2+K).toNat):=by
  unfold LeQ at h;rw[CL,CL];generalize(2:Nat)^ (E1+K).toNat=P1 at h⊢;generalize(2:Nat)^ (E2+K).toNat=P2 at h⊢;generalize(2:Nat)^a=A at h1⊢;generalize(2:Nat)^b=B at h1⊢;refine Nat.le_of_mul_le_mul_left (c:=M1) ?_ (Nat.pos_of_ne_zero b1);have g1:M1*B*(M2*P1)≤N1*A*(M2*P1):=Nat.mul_le_mul_right _ h1;have g2:N1*M2*P1*A≤N2*M1*P2*A:=Nat.mul_le_mul_right _ h;have g3:M1*(M2*(B*P1))=M1*B*(M2*P1):=by ac_rfl
  have g4:N1*A*(M2*P1)=N1*M2*P1*A:=by ac_rfl
  have g5:N2*M1*P2*A=M1*(N2*(A*P2)):=by ac_rfl
  omega
 have h3:=(BC N2 M2 (a+(E2+K).toNat) (b+(E1+K).toNat) a2 b2).1 h2;rw[qD N1 M1 E1,qD N2 M2 E2];omega
theorem VC {a b c d:Nat}(h:a*d≤c*b)(hc:c<d)(hd:0<b):a<b:=by
 refine Nat.lt_of_not_le fun hn=> ?_
 have h1:b*d≤a*d:=Nat.mul_le_mul_right _ hn;have h2:c*b<d*b:=Nat.mul_lt_mul_of_pos_right hc hd;have h3:b*d=d*b:=Nat.mul_comm _ _;omega
theorem ZJ {X1 Y1 X2 Y2:Nat}(y1:0<Y1)(y2:0<Y2)(h:X1*Y2≤X2*Y1):X1/Y1≤X2/Y2∧(X1/Y1=X2/Y2→X1 % Y1*Y2≤X2 % Y2*Y1):=by
 have e1:=Nat.div_add_mod X1 Y1;have e2:=Nat.div_add_mod X2 Y2;have l1:=Nat.mod_lt X1 y1;have l2:=Nat.mod_lt X2 y2;generalize X1/Y1=q1 at*;generalize X1 % Y1=r1 at*;generalize X2/Y2=q2 at*;generalize X2 % Y2=r2 at*;have f1:X1*Y2=q1*(Y1*Y2)+r1*Y2:=by
  rw[←e1,Nat.add_mul,Nat.mul_comm Y1 q1,Nat.mul_assoc]
 have f2:X2*Y1=q2*(Y1*Y2)+r2*Y1:=by
  rw[←e2,Nat.add_mul,Nat.mul_comm Y2 q2,Nat.mul_assoc,Nat.mul_comm Y2 Y1]
 have f3:r2*Y1<Y1*Y2:=by
  rw[Nat.mul_comm Y1 Y2];exact Nat.mul_lt_mul_of_pos_right l2 y1
 constructor
 ·refine Nat.le_of_not_lt fun hn=> ?_
  have f4:(q2+1)*(Y1*Y2)≤q1*(Y1*Y2):=Nat.mul_le_mul_right _ hn;rw[Nat.add_mul,Nat.one_mul] at f4;omega
 ·intro hq
  rw[hq] at f1;omega
theorem VD {r1 Y1 r2 Y2:Nat}(y1:0<Y1)(y2:0<Y2)(h:r1*Y2≤r2*Y1):dm ((r1*2:Nat):Int) (Y1:Int)≤dm ((r2*2:Nat):Int) (Y2:Int):=by
 have h2:r1*2*Y2≤r2*2*Y1:=by
  rw[Nat.mul_right_comm,Nat.mul_right_comm r2];exact Nat.mul_le_mul_right _ h
 have g1:r2*2<Y2→r1*2<Y1:=fun c=>VC h2 c y1
 have g2:Y1<r1*2→Y2<r2*2:=fun c=>by
  refine Nat.lt_of_not_le fun hn=> ?_
  have k1:r2*2*Y1≤Y2*Y1:=Nat.mul_le_mul_right _ hn;have k2:Y1*Y2<r1*2*Y2:=Nat.mul_lt_mul_of_pos_right c y2;have k3:Y1*Y2=Y2*Y1:=Nat.mul_comm _ _;omega
 unfold dm
 split<;>split<;>(try split)<;>(try split)<;>omega
theorem VE {way h1 h2:Int}{odd neg:Bool}(h:h1≤h2)(ha:gY way h1 odd neg=true):gY way h2 odd neg=true:=by
 unfold gY at*
 by_cases w1:way=1
 ·simp only[w1,if_true,Bool.or_eq_true,decide_eq_true_iff,Bool.and_eq_true] at ha⊢
  rcases ha with ha| ⟨ha,hb⟩
  ·exact .inl (by omega)
  ·by_cases hh:0<h2
   ·exact .inl hh
   ·exact .inr ⟨by omega,hb⟩
 ·by_cases w2:way=2
  ·simp only[w2] at ha⊢
   simp at ha⊢;omega
  ·simp only[w1,w2,if_false] at ha⊢
   exact ha
theorem Gx {K N1 M1 N2 M2:Nat}{E1 E2 n:Int}(k1: -(K:Int)≤E1)(k2: -(K:Int)≤E2)(h:LeQ K N1 M1 E1 N2 M2 E2):eZ N1 (E1-n)*dX M2 (E2-n)≤eZ N2 (E2-n)*dX M1 (E1-n):=by
 rw[fw,fw,eM,eM];unfold LeQ at h;have e:(E1-n).toNat+(-(E2-n)).toNat+(E2+K).toNat=(E2-n).toNat+(-(E1-n)).toNat+(E1+K).toNat:=by omega
 have e2:=congrArg (fun x=>(2:Nat)^x) e
 simp only[CL] at e2;have p1:=bG (E1+K).toNat;have p2:=bG (E2+K).toNat;generalize(2:Nat)^ (E1-n).toNat=a at*;generalize(2:Nat)^ (-(E2-n)).toNat=b at*;generalize(2:Nat)^ (E2-n).toNat=c at*;generalize(2:Nat)^ (-(E1-n)).toNat=d at*;generalize(2:Nat)^ (E1+K).toNat=P1 at*;generalize(2:Nat)^ (E2+K).toNat=P2 at*;refine Nat.le_of_mul_le_mul_right (c:=P1*P2) ?_ (Nat.mul_pos p1 p2);have g1:N1*M2*P1*(a*b*P2)≤N2*M1*P2*(a*b*P2):=Nat.mul_le_mul_right _ h;have g2:N1*a*(M2*b)*(P1*P2)=N1*M2*P1*(a*b*P2):=by ac_rfl
 have g3:N2*c*(M1*d)*(P1*P2)=N2*M1*P2*(c*d*P1):=by ac_rfl
 rw[g2,g3,←e2];exact g1
theorem Mm (R D:Int){s t:Int}(h:s≤t):aT R D s≤aT R D t:=by
 unfold aT ai
 split<;>simp<;>omega
theorem A6 {R D L:Int}{gr:Bool}{N1 M1 N2 M2:Nat}{E1 E2:Int}(h:dY N1 M1 E1≤dY N2 M2 E2):dj R D L gr N1 M1 E1≤dj R D L gr N2 M2 E2:=by
 have hp:=Mm R D h;unfold dj
 cases gr
 ·simp only[Bool.and_false,Bool.false_eq_true,if_false]
  exact hp
 ·simp only[Bool.and_true,decide_eq_true_iff]
  split<;>split<;>omega
theorem XH {R D L:Int}{gr qs:Bool}{K N1 M1 N2 M2:Nat}{E1 E2 way:Int}(b1:M1≠0)(b2:M2≠0)(k1: -(K:Int)≤E1)(k2: -(K:Int)≤E2)(h:LeQ K N1 M1 E1 N2 M2 E2)(hc:dj R D L gr N1 M1 E1=dj R D L gr N2 M2 E2):
  fM R D L gr qs N1 M1 E1 way≤fM R D L gr qs N2 M2 E2 way:=by
 have hx:=Gx (n:=(ai R:Int)*dj R D L gr N1 M1 E1) k1 k2 h;have y1:0<dX M1 (shP R D L gr N1 M1 E1):=by rw[eM];exact Nat.mul_pos (Nat.pos_of_ne_zero b1) (bG _)
 have y2:0<dX M2 (shP R D L gr N2 M2 E2):=by rw[eM];exact Nat.mul_pos (Nat.pos_of_ne_zero b2) (bG _)
 have hs2:shP R D L gr N2 M2 E2=E2-(ai R:Int)*dj R D L gr N1 M1 E1:=by
  unfold shP;rw[hc]
 have hs1:shP R D L gr N1 M1 E1=E1-(ai R:Int)*dj R D L gr N1 M1 E1:=rfl;rw[←hs1,←hs2] at hx;obtain⟨q1,q2⟩:=ZJ y1 y2 hx;have w1:cH R D L gr N1 M1 E1≤cH R D L gr N2 M2 E2:=q1;have g1:=KL R D L gr qs N2 M2 E2 way
 rcases DY R D L gr qs N1 M1 E1 way with hd|hd
 ·omega
 ·by_cases hw:cH R D L gr N1 M1 E1=cH R D L gr N2 M2 E2
  ·have hl:gF R D L gr N1 M1 E1*dX M2 (shP R D L gr N2 M2 E2)≤gF R D L gr N2 M2 E2*dX M1 (shP R D L gr N1 M1 E1):=q2 hw
   have hup:decide (gF R D L gr N1 M1 E1=0)=false∧rf R D L gr qs N1 M1 E1 way=true:=by
    refine Decidable.byContradiction fun c=> ?_
    unfold fM at hd;rw[if_neg c] at hd;omega
   have hl2: ¬gF R D L gr N2 M2 E2=0:=fun c=>by
    rw[c,Nat.zero_mul] at hl;have hz:=of_decide_eq_false hup.1;have:=Nat.mul_pos (Nat.pos_of_ne_zero hz) y2;omega
   have hgo:rf R D L gr qs N2 M2 E2 way=true:=by
    have:=hup.2;unfold rf at this⊢;rw[hw] at this;exact VE (VD y1 y2 hl) this
   have:fM R D L gr qs N2 M2 E2 way=cH R D L gr N2 M2 E2+1:=if_pos ⟨decide_eq_false hl2,hgo⟩;omega
  ·omega
theorem Fh {R D L:Int}{gr qs:Bool}{K N1 M1 N2 M2:Nat}{E1 E2 way:Int}(J:Nat)(d1:1≤D)(a1:N1≠0)(b1:M1≠0)(a2:N2≠0)(b2:M2≠0)(k1: -(K:Int)≤E1)(k2: -(K:Int)≤E2)(h:LeQ K N1 M1 E1 N2 M2 E2)
  (u1: ¬aT R D (dY N1 M1 E1)<L∨gr=true) (u2: ¬aT R D (dY N2 M2 E2)<L∨gr=true) (hJ: -(J:Int)≤(ai R:Int)*dj R D L gr N1 M1 E1):
  fM R D L gr qs N1 M1 E1 way*2^ ((ai R:Int)*dj R D L gr N1 M1 E1+J).toNat≤fM R D L gr qs N2 M2 E2 way*2^ ((ai R:Int)*dj R D L gr N2 M2 E2+J).toNat:=by
 have hcm:=A6 (R:=R) (D:=D) (L:=L) (gr:=gr) (VB a1 b1 a2 b2 k1 k2 h)
 by_cases hc:dj R D L gr N1 M1 E1=dj R D L gr N2 M2 E2
 ·rw[hc]
  exact Nat.mul_le_mul_right _ (XH b1 b2 k1 k2 h hc)
 ·obtain⟨s1,-⟩:=Bv (R:=R) (D:=D) (L:=L) (gr:=gr) (E:=E1) d1 a1 b1 u1
  obtain⟨-,s2⟩:=Bv (R:=R) (D:=D) (L:=L) (gr:=gr) (E:=E2) d1 a2 b2 u2;have hf:2^ (ai R*(D-1).toNat)≤cH R D L gr N2 M2 E2:=by
   rcases s2 with s2|s2
   ·exact s2
   ·omega
  have hg:=KL R D L gr qs N2 M2 E2 way;have hl:=rP R D L gr N1 M1 E1 d1 a1 b1;have hd:fM R D L gr qs N1 M1 E1 way≤2^ (ai R*D.toNat):=by
   rcases DY R D L gr qs N1 M1 E1 way with c|c<;>omega
  have e1:ai R*D.toNat+((ai R:Int)*dj R D L gr N1 M1 E1+J).toNat≤ai R*(D-1).toNat+((ai R:Int)*dj R D L gr N2 M2 E2+J).toNat:=by
   have c1:=Int.natCast_mul (ai R) D.toNat;have c2:=Int.natCast_mul (ai R) (D-1).toNat;rw[Int.toNat_of_nonneg (by omega)] at c1 c2;have c3:=uD R (show dj R D L gr N1 M1 E1+1≤dj R D L gr N2 M2 E2 by omega)
   rw[Int.mul_add] at c3;rw[Int.mul_sub] at c2;omega
  calc fM R D L gr qs N1 M1 E1 way*2^ ((ai R:Int)*dj R D L gr N1 M1 E1+J).toNat
    ≤2^ (ai R*D.toNat)*2^ ((ai R:Int)*dj R D L gr N1 M1 E1+J).toNat:=Nat.mul_le_mul_right _ hd
   _=2^ (ai R*D.toNat+((ai R:Int)*dj R D L gr N1 M1 E1+J).toNat):=(Nat.pow_add ..).symm
   _≤2^ (ai R*(D-1).toNat+((ai R:Int)*dj R D L gr N2 M2 E2+J).toNat):=Nat.pow_le_pow_right (by omega) e1
   _=2^ (ai R*(D-1).toNat)*2^ ((ai R:Int)*dj R D L gr N2 M2 E2+J).toNat:=Nat.pow_add ..
   _≤fM R D L gr qs N2 M2 E2 way*2^ ((ai R:Int)*dj R D L gr N2 M2 E2+J).toNat:=Nat.mul_le_mul_right _ (Nat.le_trans hf hg)
theorem Wd (J:Nat)(s:Bool)(d:Nat)(k:Int):V J ⟨s,d,k⟩=if s=true then-((d*2^ (k+J).toNat:Nat):Int) else((d*2^ (k+J).toNat:Nat):Int):=by
 rw[eV];unfold sz
 cases s<;>simp
def LeS (K:Nat)(s1:Bool)(N1 M1:Nat)(E1:Int)(s2:Bool)(N2 M2:Nat)(E2:Int):Prop:=V K ⟨s1,N1*M2,E1⟩≤V K ⟨s2,N2*M1,E2⟩
theorem RR {R D L:Int}{gr s1 s2:Bool}{K N1 M1 N2 M2:Nat}{E1 E2 way:Int}(J:Nat)(d1:1≤D)(a1:N1≠0)(b1:M1≠0)(a2:N2≠0)(b2:M2≠0)(k1: -(K:Int)≤E1)(k2: -(K:Int)≤E2)(h:LeS K s1 N1 M1 E1 s2 N2 M2 E2)
  (u1: ¬aT R D (dY N1 M1 E1)<L∨gr=true) (u2: ¬aT R D (dY N2 M2 E2)<L∨gr=true) (j1: -(J:Int)≤(ai R:Int)*dj R D L gr N1 M1 E1) (j2: -(J:Int)≤(ai R:Int)*dj R D L gr N2 M2 E2):
  V J ⟨s1,fM R D L gr s1 N1 M1 E1 way,(ai R:Int)*dj R D L gr N1 M1 E1⟩≤V J ⟨s2,fM R D L gr s2 N2 M2 E2 way,(ai R:Int)*dj R D L gr N2 M2 E2⟩:=by
 unfold LeS at h;rw[Wd,Wd] at h⊢;have p1:0<N1*M2*2^ (E1+K).toNat:=Nat.mul_pos (Nat.mul_pos (Nat.pos_of_ne_zero a1) (Nat.pos_of_ne_zero b2)) (bG _);have p2:0<N2*M1*2^ (E2+K).toNat:=Nat.mul_pos (Nat.mul_pos (Nat.pos_of_ne_zero a2) (Nat.pos_of_ne_zero b1)) (bG _)
 cases s1<;>cases s2
 ·simp only[Bool.false_eq_true,if_false] at h⊢
  have:=Fh (R:=R) (D:=D) (L:=L) (gr:=gr) (qs:=false) (K:=K) (way:=way) J d1 a1 b1 a2 b2 k1 k2 (show LeQ K N1 M1 E1 N2 M2 E2 by unfold LeQ;omega) u1 u2 j1
  omega
 ·simp only[Bool.false_eq_true,if_false,if_true] at h
  omega
 ·simp only[Bool.false_eq_true,if_false,if_true] at h⊢
  omega
 ·simp only[if_true] at h⊢
  have:=Fh (R:=R) (D:=D) (L:=L) (gr:=gr) (qs:=true) (K:=K) (way:=way) J d1 a2 b2 a1 b1 k2 k1 (show LeQ K N2 M2 E2 N1 M1 E1 by unfold LeQ;omega) u2 u1 j2
  omega
theorem FL {xs ys:List Nat}{E R D L G:Int}{gr qs:Bool}{way:Int}(hl:xs.length=0)(h:dR xs ys E R D L G gr qs way=false)(J:Nat):V J (iu xs ys E R D L G gr qs way)=0:=by
 have hP:df xs ys E R D L G gr qs way=⟨false,0,0,true,false,false⟩:=(if_pos (kN h).1).trans (if_pos hl);unfold iu;rw[if_neg (by rw[h];decide),hP];simp[bare,V,sz]
theorem Nf (J:Nat)(s:Bool)(e:Int):V J ⟨s,0,e⟩=0:=by
 rw[Wd];simp
theorem Yp (J:Nat)(s:Bool)(d:Nat)(e:Int):(s=false→0≤V J ⟨s,d,e⟩)∧(s=true→V J ⟨s,d,e⟩≤0):=by
 rw[Wd]
 constructor
 ·intro h
  rw[if_neg (by rw[h];decide)];omega
 ·intro h
  rw[if_pos h];omega
theorem Yq {xs ys:List Nat}{E R D L G:Int}{gr qs:Bool}{way:Int}(sa:Dg.Small 4294967296 xs)(sb:Dg.Small 4294967296 ys)(hl: ¬xs.length=0)(h:dR xs ys E R D L G gr qs way=false)(J:Nat)(hJ:100000≤J):
  V J (iu xs ys E R D L G gr qs way)=V J ⟨qs,fM R D L gr qs (Dg.vl 4294967296 xs) (Dg.vl 4294967296 ys) E way,(ai R:Int)*dj R D L gr (Dg.vl 4294967296 xs) (Dg.vl 4294967296 ys) E⟩∧
  (¬aT R D (dY (Dg.vl 4294967296 xs) (Dg.vl 4294967296 ys) E)<L∨gr=true)∧ -(J:Int)≤(ai R:Int)*dj R D L gr (Dg.vl 4294967296 xs) (Dg.vl 4294967296 ys) E∧Dg.vl 4294967296 xs≠0∧Dg.vl 4294967296 ys≠0∧1≤D:=by
 obtain⟨c1,c2,-⟩:=mh (kN h).1;obtain⟨-,d1,-,l1,-,-,-,-,-⟩:=cB c2;obtain⟨a1,a2,hm,-,-⟩:=gO c1;have hN:=nF sa a1 hl;have hM:=nF sb a2 (by omega);obtain⟨bi,ti,-⟩:=ZV (gr:=gr) (qs:=qs) (kN h).1 sa sb hl;have g:=bi.1 h;have hk:=(Bv (R:=R) (D:=D) (L:=L) (gr:=gr) (E:=E) d1 hN hM g.2).1;have hj: -(J:Int)≤(ai R:Int)*dj R D L gr (Dg.vl 4294967296 xs) (Dg.vl 4294967296 ys) E:=by
  have:=uD R hk;have h3: -68000≤(ai R:Int)*L:=by
   unfold ai
   split<;>simp<;>omega
  omega
 refine⟨?_,g.2,hj,hN,hM,d1⟩;rw[ti h];exact dw hj
theorem acx {xs ys us vs:List Nat}{E F R D L G:Int}{gr qs rs:Bool}{way:Int}(sa:Dg.Small 4294967296 xs)(sb:Dg.Small 4294967296 ys)(su:Dg.Small 4294967296 us)(sv:Dg.Small 4294967296 vs)
  (h1:dR xs ys E R D L G gr qs way=false) (h2:dR us vs F R D L G gr rs way=false) (K J:Nat) (k1: -(K:Int)≤E) (k2: -(K:Int)≤F) (hJ:100000≤J) (h:V K ⟨qs,Dg.vl 4294967296 xs*Dg.vl 4294967296 vs,E⟩≤V K ⟨rs,Dg.vl 4294967296 us*Dg.vl 4294967296 ys,F⟩):
  V J (iu xs ys E R D L G gr qs way)≤V J (iu us vs F R D L G gr rs way):=by
 obtain⟨c1,-,-⟩:=mh (kN h1).1;obtain⟨c2,-,-⟩:=mh (kN h2).1;obtain⟨-,a2,hm,-,-⟩:=gO c1;obtain⟨-,b2,hn,-,-⟩:=gO c2;have hM1:=nF sb a2 (by omega);have hM2:=nF sv b2 (by omega)
 by_cases hx:xs.length=0
 ·rw[FL hx h1 J]
  by_cases hu:us.length=0
  ·rw[FL hu h2 J]
   exact Int.le_refl _
  ·obtain⟨e,-,-,n0,-,-⟩:=Yq su sv hu h2 J hJ
   rw[e]
   cases rs
   ·exact(Yp J false _ _).1 rfl
   ·exfalso
    rw[List.length_eq_zero_iff.1 hx,show Dg.vl 4294967296 []=0 from rfl,Nat.zero_mul,Nf,Wd,if_pos rfl] at h
    have:=Nat.mul_pos (Nat.mul_pos (Nat.pos_of_ne_zero n0) (Nat.pos_of_ne_zero hM1)) (bG (F+K).toNat);omega
 ·obtain⟨e1,u1,j1,n1,m1,d1⟩:=Yq sa sb hx h1 J hJ
  by_cases hu:us.length=0
  ·rw[FL hu h2 J,e1]
   cases qs
   ·exfalso
    rw[List.length_eq_zero_iff.1 hu,show Dg.vl 4294967296 []=0 from rfl,Nat.zero_mul,Nf,Wd,if_neg (by decide)] at h
    have:=Nat.mul_pos (Nat.mul_pos (Nat.pos_of_ne_zero n1) (Nat.pos_of_ne_zero hM2)) (bG (E+K).toNat);omega
   ·exact(Yp J true _ _).2 rfl
  ·obtain⟨e2,u2,j2,n2,m2,-⟩:=Yq su sv hu h2 J hJ
   rw[e1,e2];exact RR J d1 n1 m1 n2 m2 k1 k2 h u1 u2 j1 j2
theorem OP {K:Nat}{a b:ak}(ha: -(K:Int)≤a.e)(hb: -(K:Int)≤b.e):dJ (aG a (dV b))=sgn (V K a-V K b):=by
 have h1:V K (aG a (dV b))=V K a-V K b:=by rw[dH ha (by exact hb),pC];omega
 rw[←h1,Di];rfl
theorem OQ (z:Int):(z<0↔sgn z<0)∧(0<z↔0<sgn z)∧(z=0↔sgn z=0):=by
 unfold sgn
 split
 ·omega
 ·split<;>omega
theorem Wh {xs ys us vs:List Nat}{E F R D L G:Int}{gr qs rs:Bool}{way:Int}(sa:Dg.Small 4294967296 xs)(sb:Dg.Small 4294967296 ys)(su:Dg.Small 4294967296 us)(sv:Dg.Small 4294967296 vs)
  (h1:dR xs ys E R D L G gr qs way=false) (h2:dR us vs F R D L G gr rs way=false) {more c:Int}
  (hm:more=dJ (aG ⟨qs,Dg.vl 4294967296 xs*Dg.vl 4294967296 vs,E⟩ (dV ⟨rs,Dg.vl 4294967296 us*Dg.vl 4294967296 ys,F⟩))) (hc:c=dJ (aG (iu xs ys E R D L G gr qs way) (dV (iu us vs F R D L G gr rs way)))):
  (more<0→c≤0)∧(0<more→0≤c)∧(more=0→c=0):=by
 obtain⟨K,hK⟩: ∃K:Nat,K=E.natAbs+F.natAbs:=⟨_,rfl⟩;obtain⟨J,hJ⟩: ∃J:Nat,J=100000+(iu xs ys E R D L G gr qs way).e.natAbs+(iu us vs F R D L G gr rs way).e.natAbs:=⟨_,rfl⟩;have g1:=acx sa sb su sv h1 h2 K J (by omega) (by omega) (by omega);have g2:=acx su sv sa sb h2 h1 K J (by omega) (by omega) (by omega);rw[OP (K:=K) (by simp only;omega) (by simp only;omega)] at hm;rw[OP (K:=J) (by omega) (by omega)] at hc;obtain⟨m1,m2,m3⟩:=OQ (V K ⟨qs,Dg.vl 4294967296 xs*Dg.vl 4294967296 vs,E⟩-V K ⟨rs,Dg.vl 4294967296 us*Dg.vl 4294967296 ys,F⟩);obtain⟨c1,c2,c3⟩:=OQ (V J (iu xs ys E R D L G gr qs way)-V J (iu us vs F R D L G gr rs way));rw[←hm] at m1 m2 m3;rw[←hc] at c1 c2 c3;refine⟨fun h=> ?_,fun h=> ?_,fun h=> ?_⟩
 ·have:=g1 (by omega)
  omega
 ·have:=g2 (by omega)
  omega
 ·have p:=g1 (by omega)
  have q:=g2 (by omega);omega
def fG (qs:Bool)(ao:Option Addr)(la ca:Nat)(bo:Option Addr)(lb cb:Nat)(E:Int)(rs:Bool)(no:Option Addr)(nl nc:Nat)(mo:Option Addr)(ml mc:Nat)(F:Int)(xs:Bool)(xo:Option Addr)(xn xc:Nat)(xe:Int)(ys:Bool)(yo:Option Addr)(yn yc:Nat)(ye:Int)(px py:Nat)(w W:World):Prop:=
 au W w.heap.size 25 (yrL qs (.slice ao la ca) (.slice bo lb cb) E)∧au W (w.heap.size+1) 25 (yrL rs (.slice no nl nc) (.slice mo ml mc) F)∧au W px 30 (ydL xs (.slice xo (Dg.dg 4294967296 xn).length xc) xe)∧au W py 30 (ydL ys (.slice yo (Dg.dg 4294967296 yn).length yc) ye)∧Rd W .u32 (.slice xo (Dg.dg 4294967296 xn).length xc) (Dg.dg 4294967296 xn)∧Rd W .u32 (.slice yo (Dg.dg 4294967296 yn).length yc) (Dg.dg 4294967296 yn)∧yB w W
theorem fG.l {qs:Bool}{ao:Option Addr}{la ca:Nat}{bo:Option Addr}{lb cb:Nat}{E:Int}{rs:Bool}{no:Option Addr}{nl nc:Nat}{mo:Option Addr}{ml mc:Nat}{F:Int}{xs:Bool}{xo:Option Addr}{xn xc:Nat}{xe:Int}{ys:Bool}{yo:Option Addr}{yn yc:Nat}{ye:Int}{px py:Nat}{w W W':World}(h:fG qs ao la ca bo lb cb E rs no nl nc mo ml mc F xs xo xn xc xe ys yo yn yc ye px py w W)(hb:yB W W'):fG qs ao la ca bo lb cb E rs no nl nc mo ml mc F xs xo xn xc xe ys yo yn yc ye px py w W':=by
 obtain⟨h1,h2,h3,h4,h5,h6,h7⟩:=h;exact⟨h1.l hb,h2.l hb,h3.l hb,h4.l hb,h5.l hb,h6.l hb,aa h7 hb⟩
theorem fG.new {qs:Bool}{ao:Option Addr}{la ca:Nat}{bo:Option Addr}{lb cb:Nat}{E:Int}{rs:Bool}{no:Option Addr}{nl nc:Nat}{mo:Option Addr}{ml mc:Nat}{F:Int}{xs:Bool}{xo:Option Addr}{xn xc:Nat}{xe:Int}{ys:Bool}{yo:Option Addr}{yn yc:Nat}{ye:Int}{px py:Nat}{w W:World}(h:fG qs ao la ca bo lb cb E rs no nl nc mo ml mc F xs xo xn xc xe ys yo yn yc ye px py w W)(o:Obj):fG qs ao la ca bo lb cb E rs no nl nc mo ml mc F xs xo xn xc xe ys yo yn yc ye px py w (W.alloc o):=h.l (af W o)
theorem fG.below {qs:Bool}{ao:Option Addr}{la ca:Nat}{bo:Option Addr}{lb cb:Nat}{E:Int}{rs:Bool}{no:Option Addr}{nl nc:Nat}{mo:Option Addr}{ml mc:Nat}{F:Int}{xs:Bool}{xo:Option Addr}{xn xc:Nat}{xe:Int}{ys:Bool}{yo:Option Addr}{yn yc:Nat}{ye:Int}{px py:Nat}{w W:World}(h:fG qs ao la ca bo lb cb E rs no nl nc mo ml mc F xs xo xn xc xe ys yo yn yc ye px py w W):yB w W:=h.2.2.2.2.2.2
theorem fG.cellsA {qs:Bool}{ao:Option Addr}{la ca:Nat}{bo:Option Addr}{lb cb:Nat}{E:Int}{rs:Bool}{no:Option Addr}{nl nc:Nat}{mo:Option Addr}{ml mc:Nat}{F:Int}{xs:Bool}{xo:Option Addr}{xn xc:Nat}{xe:Int}{ys:Bool}{yo:Option Addr}{yn yc:Nat}{ye:Int}{px py:Nat}{w W:World}(h:fG qs ao la ca bo lb cb E rs no nl nc mo ml mc F xs xo xn xc xe ys yo yn yc ye px py w W):(W.cell? ⟨w.heap.size,0,none⟩=some (.bool qs)∧W.cell? ⟨w.heap.size,1,none⟩=some (.slice ao la ca)∧W.cell? ⟨w.heap.size,3,none⟩=some (yi E))∧W.cell? ⟨w.heap.size+1,2,none⟩=some (.slice mo ml mc):=
 ⟨⟨h.1.c 0 rfl,h.1.c 1 rfl,h.1.c 3 rfl⟩,h.2.1.c 2 rfl⟩
theorem fG.cellsB {qs:Bool}{ao:Option Addr}{la ca:Nat}{bo:Option Addr}{lb cb:Nat}{E:Int}{rs:Bool}{no:Option Addr}{nl nc:Nat}{mo:Option Addr}{ml mc:Nat}{F:Int}{xs:Bool}{xo:Option Addr}{xn xc:Nat}{xe:Int}{ys:Bool}{yo:Option Addr}{yn yc:Nat}{ye:Int}{px py:Nat}{w W:World}(h:fG qs ao la ca bo lb cb E rs no nl nc mo ml mc F xs xo xn xc xe ys yo yn yc ye px py w W):(W.cell? ⟨w.heap.size+1,0,none⟩=some (.bool rs)∧W.cell? ⟨w.heap.size+1,1,none⟩=some (.slice no nl nc)∧W.cell? ⟨w.heap.size+1,3,none⟩=some (yi F))∧W.cell? ⟨w.heap.size,2,none⟩=some (.slice bo lb cb):=
 ⟨⟨h.2.1.c 0 rfl,h.2.1.c 1 rfl,h.2.1.c 3 rfl⟩,h.1.c 2 rfl⟩
def pF (w W:World)(nb:Nat):Prop:=au W nb 35 (ydL false (.slice none 0 0) 0)∧w.heap.size≤nb
theorem pF.l {w W W':World}{nb:Nat}(h:pF w W nb)(hb:yB W W'):pF w W' nb:=⟨h.1.l hb,h.2⟩
theorem uA {w W:World}(h:yB w W):pF w (W.alloc (.cells (ydA false (.slice none 0 0) 0) 35)) W.heap.size:=⟨ah W (ydL false (.slice none 0 0) 0) 35,h.size⟩
def ZW (qs:Bool)(ao:Option Addr)(la ca:Nat)(bo:Option Addr)(lb cb:Nat)(E:Int)(rs:Bool)(no:Option Addr)(nl nc:Nat)(mo:Option Addr)(ml mc:Nat)(F:Int)(xs:Bool)(xo:Option Addr)(xn xc:Nat)(xe:Int)(ys:Bool)(yo:Option Addr)(yn yc:Nat)(ye:Int)(px py:Nat)(w:World)(sv:Value)(ps:Bool)(pn:Nat)(pe:Int)(wx:World):Prop:=
 fG qs ao la ca bo lb cb E rs no nl nc mo ml mc F xs xo xn xc xe ys yo yn yc ye px py w wx∧ ∃pb vo vc,sv= .pointer (some ⟨pb,0,none⟩)∧au wx pb 35 (ydL ps (.slice vo (Dg.dg 65536 pn).length vc) pe)∧Rd wx .i64 (.slice vo (Dg.dg 65536 pn).length vc) (Dg.dg 65536 pn)
theorem ZX {qs:Bool}{ao:Option Addr}{la ca:Nat}{bo:Option Addr}{lb cb:Nat}{E:Int}{rs:Bool}{no:Option Addr}{nl nc:Nat}{mo:Option Addr}{ml mc:Nat}{F:Int}{xs:Bool}{xo:Option Addr}{xn xc:Nat}{xe:Int}{ys:Bool}{yo:Option Addr}{yn yc:Nat}{ye:Int}{px py:Nat}{w W:World}{ps:Bool}{pn:Nat}{pe:Int}{vo:Option Addr}{vc:Nat}(h:fG qs ao la ca bo lb cb E rs no nl nc mo ml mc F xs xo xn xc xe ys yo yn yc ye px py w W)(hr:Rd W .i64 (.slice vo (Dg.dg 65536 pn).length vc) (Dg.dg 65536 pn)):
  ZW qs ao la ca bo lb cb E rs no nl nc mo ml mc F xs xo xn xc xe ys yo yn yc ye px py w (.pointer (some ⟨W.heap.size,0,none⟩)) ps pn pe (W.alloc (.cells (ydA ps (.slice vo (Dg.dg 65536 pn).length vc) pe) 35)):=
 ⟨h.new _,_,vo,vc,rfl,ah W (ydL ps (.slice vo (Dg.dg 65536 pn).length vc) pe) 35,hr.l (af W (.cells (ydA ps (.slice vo (Dg.dg 65536 pn).length vc) pe) 35))⟩
theorem Ov {qs:Bool}{ao:Option Addr}{la ca:Nat}{bo:Option Addr}{lb cb:Nat}{E:Int}{rs:Bool}{no:Option Addr}{nl nc:Nat}{mo:Option Addr}{ml mc:Nat}{F:Int}{xs:Bool}{xo:Option Addr}{xn xc:Nat}{xe:Int}{ys:Bool}{yo:Option Addr}{yn yc:Nat}{ye:Int}{px py nb:Nat}{w W:World}{ps:Bool}{pn:Nat}{pe:Int}{vo:Option Addr}{vc:Nat}(h:fG qs ao la ca bo lb cb E rs no nl nc mo ml mc F xs xo xn xc xe ys yo yn yc ye px py w W)(hn:pF w W nb)(hr:Rd W .i64 (.slice vo (Dg.dg 65536 pn).length vc) (Dg.dg 65536 pn)):
  ZW qs ao la ca bo lb cb E rs no nl nc mo ml mc F xs xo xn xc xe ys yo yn yc ye px py w (.pointer (some ⟨nb,0,none⟩)) ps pn pe (((W.setCell ⟨nb,0,none⟩ (.bool ps)).setCell ⟨nb,1,none⟩ (.slice vo (Dg.dg 65536 pn).length vc)).setCell ⟨nb,2,none⟩ (yi pe)):=by
 have bu:=((ag W nb 0 (.bool ps)).trans (ag _ nb 1 (.slice vo (Dg.dg 65536 pn).length vc))).trans (ag _ nb 2 (yi pe));obtain⟨h1,h2,h3,h4,h5,h6,h7⟩:=h;have hz: ∀x∈((ydL false (.slice none 0 0) 0):List Value),∀n:Int,n≠0→x≠yi n:=by simp;intro n hn h;exact hn h.symm
 have hu: ∀x∈((ydL false (.slice none 0 0) 0):List Value),∀n:Int,x≠ .int .u32 n:=by simp
 refine⟨⟨bu.loc h1 (hn.1.ne h1 (.inr (by decide))),bu.loc h2 (hn.1.ne h2 (.inr (by decide))),bu.loc h3 (hn.1.ne h3 (.inr (by decide))),bu.loc h4 (hn.1.ne h4 (.inr (by decide))),bu.rd h5 (aX h5 hn.1 hu),bu.rd h6 (aX h6 hn.1 hu),bu.below h7 hn.2⟩,nb,vo,vc,rfl,((hn.1.set 0 _).set 1 _).set 2 _,bu.rd hr (cq hr (Dg.norm_dg _ _ (by omega)) hn.1 hz)⟩
def fV (qs:Bool)(ao:Option Addr)(la ca:Nat)(bo:Option Addr)(lb cb:Nat)(E:Int)(rs:Bool)(no:Option Addr)(nl nc:Nat)(mo:Option Addr)(ml mc:Nat)(F:Int)(xs:Bool)(xo:Option Addr)(xn xc:Nat)(xe:Int)(ys:Bool)(yo:Option Addr)(yn yc:Nat)(ye:Int)(px py pb:Nat)(ps:Bool)(vo:Option Addr)(pn vc:Nat)(pe:Int)(n5:Nat)(w W:World):Prop:=
 fG qs ao la ca bo lb cb E rs no nl nc mo ml mc F xs xo xn xc xe ys yo yn yc ye px py w W∧au W pb 35 (ydL ps (.slice vo (Dg.dg 65536 pn).length vc) pe)∧Rd W .i64 (.slice vo (Dg.dg 65536 pn).length vc) (Dg.dg 65536 pn)∧pb<n5∧w.heap.size≤n5∧n5≤W.heap.size
theorem fV.l {qs:Bool}{ao:Option Addr}{la ca:Nat}{bo:Option Addr}{lb cb:Nat}{E:Int}{rs:Bool}{no:Option Addr}{nl nc:Nat}{mo:Option Addr}{ml mc:Nat}{F:Int}{xs:Bool}{xo:Option Addr}{xn xc:Nat}{xe:Int}{ys:Bool}{yo:Option Addr}{yn yc:Nat}{ye:Int}{px py pb:Nat}{ps:Bool}{vo:Option Addr}{pn vc:Nat}{pe:Int}{n5:Nat}{w W W':World}(h:fV qs ao la ca bo lb cb E rs no nl nc mo ml mc F xs xo xn xc xe ys yo yn yc ye px py pb ps vo pn vc pe n5 w W)(hb:yB W W'):fV qs ao la ca bo lb cb E rs no nl nc mo ml mc F xs xo xn xc xe ys yo yn yc ye px py pb ps vo pn vc pe n5 w W':=by
 obtain⟨h1,h2,h3,h4,h6,h7⟩:=h;exact⟨h1.l hb,h2.l hb,h3.l hb,h4,h6,Nat.le_trans h7 hb.size⟩
theorem fV.new {qs:Bool}{ao:Option Addr}{la ca:Nat}{bo:Option Addr}{lb cb:Nat}{E:Int}{rs:Bool}{no:Option Addr}{nl nc:Nat}{mo:Option Addr}{ml mc:Nat}{F:Int}{xs:Bool}{xo:Option Addr}{xn xc:Nat}{xe:Int}{ys:Bool}{yo:Option Addr}{yn yc:Nat}{ye:Int}{px py pb:Nat}{ps:Bool}{vo:Option Addr}{pn vc:Nat}{pe:Int}{n5:Nat}{w W:World}(h:fV qs ao la ca bo lb cb E rs no nl nc mo ml mc F xs xo xn xc xe ys yo yn yc ye px py pb ps vo pn vc pe n5 w W)(o:Obj):fV qs ao la ca bo lb cb E rs no nl nc mo ml mc F xs xo xn xc xe ys yo yn yc ye px py pb ps vo pn vc pe n5 w (W.alloc o):=h.l (af W o)
theorem fV.below {qs:Bool}{ao:Option Addr}{la ca:Nat}{bo:Option Addr}{lb cb:Nat}{E:Int}{rs:Bool}{no:Option Addr}{nl nc:Nat}{mo:Option Addr}{ml mc:Nat}{F:Int}{xs:Bool}{xo:Option Addr}{xn xc:Nat}{xe:Int}{ys:Bool}{yo:Option Addr}{yn yc:Nat}{ye:Int}{px py pb:Nat}{ps:Bool}{vo:Option Addr}{pn vc:Nat}{pe:Int}{n5:Nat}{w W:World}(h:fV qs ao la ca bo lb cb E rs no nl nc mo ml mc F xs xo xn xc xe ys yo yn yc ye px py pb ps vo pn vc pe n5 w W):yB w W:=h.1.below
theorem fV.size {qs:Bool}{ao:Option Addr}{la ca:Nat}{bo:Option Addr}{lb cb:Nat}{E:Int}{rs:Bool}{no:Option Addr}{nl nc:Nat}{mo:Option Addr}{ml mc:Nat}{F:Int}{xs:Bool}{xo:Option Addr}{xn xc:Nat}{xe:Int}{ys:Bool}{yo:Option Addr}{yn yc:Nat}{ye:Int}{px py pb:Nat}{ps:Bool}{vo:Option Addr}{pn vc:Nat}{pe:Int}{n5:Nat}{w W:World}(h:fV qs ao la ca bo lb cb E rs no nl nc mo ml mc F xs xo xn xc xe ys yo yn yc ye px py pb ps vo pn vc pe n5 w W):n5≤W.heap.size:=h.2.2.2.2.2
def ph (n5:Nat)(W:World)(nb:Nat):Prop:=au W nb 35 (ydL false (.slice none 0 0) 0)∧n5≤nb
theorem ph.l {n5:Nat}{W W':World}{nb:Nat}(h:ph n5 W nb)(hb:yB W W'):ph n5 W' nb:=⟨h.1.l hb,h.2⟩
theorem tV {n5:Nat}{W:World}(h:n5≤W.heap.size):ph n5 (W.alloc (.cells (ydA false (.slice none 0 0) 0) 35)) W.heap.size:=⟨ah W (ydL false (.slice none 0 0) 0) 35,h⟩
def X5 (qs:Bool)(ao:Option Addr)(la ca:Nat)(bo:Option Addr)(lb cb:Nat)(E:Int)(rs:Bool)(no:Option Addr)(nl nc:Nat)(mo:Option Addr)(ml mc:Nat)(F:Int)(xs:Bool)(xo:Option Addr)(xn xc:Nat)(xe:Int)(ys:Bool)(yo:Option Addr)(yn yc:Nat)(ye:Int)(px py pb:Nat)(ps:Bool)(vo:Option Addr)(pn vc:Nat)(pe:Int)(n5:Nat)(w:World)(sv:Value)(us:Bool)(un:Nat)(ue:Int)(wx:World):Prop:=
 fV qs ao la ca bo lb cb E rs no nl nc mo ml mc F xs xo xn xc xe ys yo yn yc ye px py pb ps vo pn vc pe n5 w wx∧ ∃qb uo uc,sv= .pointer (some ⟨qb,0,none⟩)∧au wx qb 35 (ydL us (.slice uo (Dg.dg 65536 un).length uc) ue)∧Rd wx .i64 (.slice uo (Dg.dg 65536 un).length uc) (Dg.dg 65536 un)
theorem Uo {qs:Bool}{ao:Option Addr}{la ca:Nat}{bo:Option Addr}{lb cb:Nat}{E:Int}{rs:Bool}{no:Option Addr}{nl nc:Nat}{mo:Option Addr}{ml mc:Nat}{F:Int}{xs:Bool}{xo:Option Addr}{xn xc:Nat}{xe:Int}{ys:Bool}{yo:Option Addr}{yn yc:Nat}{ye:Int}{px py pb:Nat}{ps:Bool}{vo:Option Addr}{pn vc:Nat}{pe:Int}{n5:Nat}{w W:World}{us:Bool}{un:Nat}{ue:Int}{uo:Option Addr}{uc:Nat}(h:fV qs ao la ca bo lb cb E rs no nl nc mo ml mc F xs xo xn xc xe ys yo yn yc ye px py pb ps vo pn vc pe n5 w W)(hr:Rd W .i64 (.slice uo (Dg.dg 65536 un).length uc) (Dg.dg 65536 un)):
  X5 qs ao la ca bo lb cb E rs no nl nc mo ml mc F xs xo xn xc xe ys yo yn yc ye px py pb ps vo pn vc pe n5 w (.pointer (some ⟨W.heap.size,0,none⟩)) us un ue (W.alloc (.cells (ydA us (.slice uo (Dg.dg 65536 un).length uc) ue) 35)):=
 ⟨h.new _,_,uo,uc,rfl,ah W (ydL us (.slice uo (Dg.dg 65536 un).length uc) ue) 35,hr.l (af W (.cells (ydA us (.slice uo (Dg.dg 65536 un).length uc) ue) 35))⟩
theorem Uq {qs:Bool}{ao:Option Addr}{la ca:Nat}{bo:Option Addr}{lb cb:Nat}{E:Int}{rs:Bool}{no:Option Addr}{nl nc:Nat}{mo:Option Addr}{ml mc:Nat}{F:Int}{xs:Bool}{xo:Option Addr}{xn xc:Nat}{xe:Int}{ys:Bool}{yo:Option Addr}{yn yc:Nat}{ye:Int}{px py pb:Nat}{ps:Bool}{vo:Option Addr}{pn vc:Nat}{pe:Int}{n5:Nat}{nb:Nat}{w W:World}{us:Bool}{un:Nat}{ue:Int}{uo:Option Addr}{uc:Nat}(h:fV qs ao la ca bo lb cb E rs no nl nc mo ml mc F xs xo xn xc xe ys yo yn yc ye px py pb ps vo pn vc pe n5 w W)(hn:ph n5 W nb)(hr:Rd W .i64 (.slice uo (Dg.dg 65536 un).length uc) (Dg.dg 65536 un)):
  X5 qs ao la ca bo lb cb E rs no nl nc mo ml mc F xs xo xn xc xe ys yo yn yc ye px py pb ps vo pn vc pe n5 w (.pointer (some ⟨nb,0,none⟩)) us un ue (((W.setCell ⟨nb,0,none⟩ (.bool us)).setCell ⟨nb,1,none⟩ (.slice uo (Dg.dg 65536 un).length uc)).setCell ⟨nb,2,none⟩ (yi ue)):=by
 obtain⟨hF,g2,g3,g4,g6,g7⟩:=h;obtain⟨hG,qb,uo',uc',hq,hl,hr'⟩:=Ov (ps:=us) (pn:=un) (pe:=ue) hF ⟨hn.1,Nat.le_trans g6 hn.2⟩ hr;have bu:=((ag W nb 0 (.bool us)).trans (ag _ nb 1 (.slice uo (Dg.dg 65536 un).length uc))).trans (ag _ nb 2 (yi ue));have hz: ∀x∈((ydL false (.slice none 0 0) 0):List Value),∀n:Int,n≠0→x≠yi n:=by simp;intro n hn h;exact hn h.symm
 have hne:pb≠nb:=by have:=hn.2;omega
 have h9:=(((hn.1.set 0 (.bool us)).set 1 (.slice uo (Dg.dg 65536 un).length uc)).set 2 (yi ue)).lt;exact⟨⟨hG,bu.loc g2 hne,bu.rd g3 (cq g3 (Dg.norm_dg _ _ (by omega)) hn.1 hz),g4,g6,Nat.le_trans hn.2 (Nat.le_of_lt h9)⟩,qb,uo',uc',hq,hl,hr'⟩
end Go.Proofs.YtibnjbojkjablaaDoor

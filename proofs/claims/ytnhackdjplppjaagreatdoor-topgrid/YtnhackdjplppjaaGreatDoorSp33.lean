/-
  Texts laid together: Gb5, Gg1, Rk1, Rk2, Pa1, Pa2.
-/
import Derived.Test.YtnhackdjplppjaaGreatDoorSp29
import Derived.Test.YtnhackdjplppjaaGreatDoorSp32
namespace Go.Proofs.YtnhackdjplppjaaGreatDoor
open Go.RowKit
theorem cut_spot {R D L:Int} {gr:Bool} {N M:Nat} {E:Int} (h1:1≤D) (hN:N≠0) (hM:M≠0) (hu: ¬powerR R D (topQ N M E)<L∨gr=true):
  L≤cutP R D L gr N M E∧(2^ (widthN R*(D-1).toNat)≤wholeP R D L gr N M E∨(gr=true∧cutP R D L gr N M E=L)):=by
 have hcut:L≤cutP R D L gr N M E∧(cutP R D L gr N M E=powerR R D (topQ N M E)∨(gr=true∧cutP R D L gr N M E=L)):=by
  unfold cutP
  by_cases hc:(decide (powerR R D (topQ N M E)<L)&&gr)=true
  ·rw[if_pos hc]
   exact⟨Int.le_refl _,.inr ⟨(Bool.and_eq_true_iff.1 hc).2,rfl⟩⟩
  ·rw[if_neg hc]
   refine⟨?_,.inl rfl⟩
   rcases hu with hu|hu
   ·omega
   ·rw[hu,Bool.and_true] at hc
    have: ¬powerR R D (topQ N M E)<L:=fun c=>hc (decide_eq_true c)
    omega
 refine⟨hcut.1, ?_⟩
 rcases hcut.2 with h|h
 ·left
  have:=mt (seek_iff R D (powerR R D (topQ N M E)) N M E h1 hN hM).1 (Int.lt_irrefl _);rw[lt_bits] at this;unfold wholeP shP;rw[h];omega
 ·exact .inr h
end Go.Proofs.YtnhackdjplppjaaGreatDoor
namespace Go.Proofs.YtnhackdjplppjaaGreatDoor
open Go.RowKit
def LeQ (K:Nat) (N1 M1:Nat) (E1:Int) (N2 M2:Nat) (E2:Int):Prop:=N1*M2*2^ (E1+K).toNat≤N2*M1*2^ (E2+K).toNat
theorem pow_split (a b:Nat):(2:Nat)^ (a+b)=2^a*2^b:=Nat.pow_add ..
theorem topQ_mono {K N1 M1 N2 M2:Nat} {E1 E2:Int} (a1:N1≠0) (b1:M1≠0) (a2:N2≠0) (b2:M2≠0) (k1: -(K:Int)≤E1) (k2: -(K:Int)≤E2) (h:LeQ K N1 M1 E1 N2 M2 E2):topQ N1 M1 E1≤topQ N2 M2 E2:=by
 have h1:=(top_iff N1 M1 (-(topQ N1 M1 0)).toNat (topQ N1 M1 0).toNat a1 b1).2 (by omega);obtain⟨a,ha⟩: ∃a,(-(topQ N1 M1 0)).toNat=a:=⟨_,rfl⟩;obtain⟨b,hb⟩: ∃b,(topQ N1 M1 0).toNat=b:=⟨_,rfl⟩;rw[ha,hb] at h1;have h2:M2*2^ (b+(E1+K).toNat)≤N2*2^ (a+(E2+K).toNat):=by
  unfold LeQ at h;rw[pow_split,pow_split];generalize(2:Nat)^ (E1+K).toNat=P1 at h⊢;generalize(2:Nat)^ (E2+K).toNat=P2 at h⊢;generalize(2:Nat)^a=A at h1⊢;generalize(2:Nat)^b=B at h1⊢;refine Nat.le_of_mul_le_mul_left (c:=M1) ?_ (Nat.pos_of_ne_zero b1);have g1:M1*B*(M2*P1)≤N1*A*(M2*P1):=Nat.mul_le_mul_right _ h1;have g2:N1*M2*P1*A≤N2*M1*P2*A:=Nat.mul_le_mul_right _ h;have g3:M1*(M2*(B*P1))=M1*B*(M2*P1):=by ac_rfl
  have g4:N1*A*(M2*P1)=N1*M2*P1*A:=by ac_rfl
  have g5:N2*M1*P2*A=M1*(N2*(A*P2)):=by ac_rfl
  omega
 have h3:=(top_iff N2 M2 (a+(E2+K).toNat) (b+(E1+K).toNat) a2 b2).1 h2;rw[topQ_zero N1 M1 E1,topQ_zero N2 M2 E2];omega
theorem mul_lt_of {a b c d:Nat} (h:a*d≤c*b) (hc:c<d) (hd:0<b):a<b:=by
 refine Nat.lt_of_not_le fun hn=> ?_
 have h1:b*d≤a*d:=Nat.mul_le_mul_right _ hn;have h2:c*b<d*b:=Nat.mul_lt_mul_of_pos_right hc hd;have h3:b*d=d*b:=Nat.mul_comm _ _;omega
theorem div_mono {X1 Y1 X2 Y2:Nat} (y1:0<Y1) (y2:0<Y2) (h:X1*Y2≤X2*Y1):X1/Y1≤X2/Y2∧(X1/Y1=X2/Y2→X1 % Y1*Y2≤X2 % Y2*Y1):=by
 have e1:=Nat.div_add_mod X1 Y1;have e2:=Nat.div_add_mod X2 Y2;have l1:=Nat.mod_lt X1 y1;have l2:=Nat.mod_lt X2 y2;generalize X1/Y1=q1 at*;generalize X1 % Y1=r1 at*;generalize X2/Y2=q2 at*;generalize X2 % Y2=r2 at*;have f1:X1*Y2=q1*(Y1*Y2)+r1*Y2:=by
  rw[←e1,Nat.add_mul,Nat.mul_comm Y1 q1,Nat.mul_assoc]
 have f2:X2*Y1=q2*(Y1*Y2)+r2*Y1:=by
  rw[←e2,Nat.add_mul,Nat.mul_comm Y2 q2,Nat.mul_assoc,Nat.mul_comm Y2 Y1]
 have f3:r2*Y1<Y1*Y2:=by
  rw[Nat.mul_comm Y1 Y2];exact Nat.mul_lt_mul_of_pos_right l2 y1
 constructor
 ·refine Nat.le_of_not_lt fun hn=> ?_
  have f4:(q2+1)*(Y1*Y2)≤q1*(Y1*Y2):=Nat.mul_le_mul_right _ hn;rw[Nat.add_mul,Nat.one_mul] at f4;omega
 ·intro hq
  rw[hq] at f1;omega
theorem half_mono {r1 Y1 r2 Y2:Nat} (y1:0<Y1) (y2:0<Y2) (h:r1*Y2≤r2*Y1):cmpI ((r1*2:Nat):Int) (Y1:Int)≤cmpI ((r2*2:Nat):Int) (Y2:Int):=by
 have h2:r1*2*Y2≤r2*2*Y1:=by
  rw[Nat.mul_right_comm,Nat.mul_right_comm r2];exact Nat.mul_le_mul_right _ h
 have g1:r2*2<Y2→r1*2<Y1:=fun c=>mul_lt_of h2 c y1
 have g2:Y1<r1*2→Y2<r2*2:=fun c=>by
  refine Nat.lt_of_not_le fun hn=> ?_
  have k1:r2*2*Y1≤Y2*Y1:=Nat.mul_le_mul_right _ hn;have k2:Y1*Y2<r1*2*Y2:=Nat.mul_lt_mul_of_pos_right c y2;have k3:Y1*Y2=Y2*Y1:=Nat.mul_comm _ _;omega
 unfold cmpI
 split<;>split<;>(try split)<;>(try split)<;>omega
theorem away_mono {way h1 h2:Int} {odd neg:Bool} (h:h1≤h2) (ha:awayB way h1 odd neg=true):awayB way h2 odd neg=true:=by
 unfold awayB at*
 by_cases w1:way=1
 ·simp only[w1,if_true,Bool.or_eq_true,decide_eq_true_iff,Bool.and_eq_true] at ha⊢
  rcases ha with ha| ⟨ha,hb⟩
  ·exact .inl (by omega)
  ·by_cases hh:0<h2
   ·exact .inl hh
   ·exact .inr ⟨by omega,hb⟩
 ·by_cases w2:way=2
  ·simp only[w2] at ha⊢
   simp at ha⊢;omega
  ·simp only[w1,w2,if_false] at ha⊢
   exact ha
theorem cross_at {K N1 M1 N2 M2:Nat} {E1 E2 n:Int} (k1: -(K:Int)≤E1) (k2: -(K:Int)≤E2) (h:LeQ K N1 M1 E1 N2 M2 E2):numP N1 (E1-n)*denP M2 (E2-n)≤numP N2 (E2-n)*denP M1 (E1-n):=by
 rw[numP_pow,numP_pow,denP_pow,denP_pow];unfold LeQ at h;have e:(E1-n).toNat+(-(E2-n)).toNat+(E2+K).toNat=(E2-n).toNat+(-(E1-n)).toNat+(E1+K).toNat:=by omega
 have e2:=congrArg (fun x=>(2:Nat)^x) e
 simp only[pow_split] at e2;have p1:=two_pos (E1+K).toNat;have p2:=two_pos (E2+K).toNat;generalize(2:Nat)^ (E1-n).toNat=a at*;generalize(2:Nat)^ (-(E2-n)).toNat=b at*;generalize(2:Nat)^ (E2-n).toNat=c at*;generalize(2:Nat)^ (-(E1-n)).toNat=d at*;generalize(2:Nat)^ (E1+K).toNat=P1 at*;generalize(2:Nat)^ (E2+K).toNat=P2 at*;refine Nat.le_of_mul_le_mul_right (c:=P1*P2) ?_ (Nat.mul_pos p1 p2);have g1:N1*M2*P1*(a*b*P2)≤N2*M1*P2*(a*b*P2):=Nat.mul_le_mul_right _ h;have g2:N1*a*(M2*b)*(P1*P2)=N1*M2*P1*(a*b*P2):=by ac_rfl
 have g3:N2*c*(M1*d)*(P1*P2)=N2*M1*P2*(c*d*P1):=by ac_rfl
 rw[g2,g3,←e2];exact g1
end Go.Proofs.YtnhackdjplppjaaGreatDoor
namespace Go.Proofs.YtnhackdjplppjaaGreatDoor
def Like (J:Int) (N1 M1:Nat) (E1:Int) (N2 M2:Nat) (E2:Int):Prop:=
 ∀j,J≤j→numP N1 (E1-j)/denP M1 (E1-j)=numP N2 (E2-j)/denP M2 (E2-j)∧(numP N1 (E1-j) % denP M1 (E1-j)=0↔numP N2 (E2-j) % denP M2 (E2-j)=0)
theorem Like.trans {J K:Int} {N1 M1 N2 M2 N3 M3:Nat} {E1 E2 E3:Int} (h:Like J N1 M1 E1 N2 M2 E2) (g:Like K N2 M2 E2 N3 M3 E3):Like (max J K) N1 M1 E1 N3 M3 E3:=fun j hj=>by
 obtain⟨a1,a2⟩:=h j (by omega);obtain⟨b1,b2⟩:=g j (by omega);exact⟨a1.trans b1,a2.trans b2⟩
theorem Like.symm {J:Int} {N1 M1 N2 M2:Nat} {E1 E2:Int} (h:Like J N1 M1 E1 N2 M2 E2):Like J N2 M2 E2 N1 M1 E1:=fun j hj=>⟨(h j hj).1.symm,(h j hj).2.symm⟩
theorem Like.mono {J K:Int} {N1 M1 N2 M2:Nat} {E1 E2:Int} (h:Like J N1 M1 E1 N2 M2 E2) (hk:J≤K):Like K N1 M1 E1 N2 M2 E2:=fun j hj=>h j (by omega)
theorem halve_step {X Y X' Y':Nat} (hY:0<Y) (hY':0<Y') (h:X*Y'=2*X'*Y):
  X'/Y'=X/Y/2∧(X' % Y'=0↔X/Y % 2=0∧X % Y=0)∧cmpI ((X' % Y'*2:Nat):Int) (Y':Int)=if X/Y % 2=1 then(if X % Y=0 then 0 else 1) else-1:=by
 obtain⟨q,hq⟩: ∃q,X/Y=q:=⟨_,rfl⟩;obtain⟨r,hr⟩: ∃r,X % Y=r:=⟨_,rfl⟩;have hX:X=Y*q+r:=by rw[←hq,←hr];exact(Nat.div_add_mod X Y).symm
 have hrY:r<Y:=by rw[←hr];exact Nat.mod_lt _ hY
 have hb:q % 2<2:=Nat.mod_lt _ (by omega);have hq2:q=2*(q/2)+q % 2:=(Nat.div_add_mod q 2).symm;generalize hA:q/2=a at hq2;generalize hB:q % 2=b at hq2 hb;have e1:2*X'*Y=(Y*(2*a+b)+r)*Y':=by rw[←h,hX,←hq2]
 have hlt:X'<Y'*(a+1):=by
  refine Nat.lt_of_mul_lt_mul_left (a:=2*Y) ?_;have e2:(Y*(2*a+b)+r)*Y'< (2*Y*(a+1))*Y':=by
   refine Nat.mul_lt_mul_of_pos_right ?_ hY';have:Y*(2*a+b)≤Y*(2*a+1):=Nat.mul_le_mul_left _ (by omega);have e3:2*Y*(a+1)=Y*(2*a+1)+Y:=by
    rw[Nat.mul_add,Nat.mul_add,Nat.mul_comm 2 Y,Nat.mul_assoc];omega
   omega
  calc 2*Y*X'=2*X'*Y:=by rw[Nat.mul_assoc,Nat.mul_comm Y X',Nat.mul_assoc]
   _< (2*Y*(a+1))*Y':=by rw[e1];exact e2
   _=2*Y*(Y'*(a+1)):=by rw[Nat.mul_assoc,Nat.mul_comm (a+1) Y']
 have hge:Y'*a≤X':=by
  refine Nat.le_of_mul_le_mul_left (show 2*Y*(Y'*a)≤2*Y*X' from ?_) (by omega)
  have c1:2*Y*(Y'*a)=(Y*(2*a))*Y':=by rw[Nat.mul_comm Y' a,←Nat.mul_assoc,Nat.mul_comm 2 Y,Nat.mul_assoc Y 2 a]
  have c2:Y*(2*a)≤Y*(2*a+b)+r:=Nat.le_trans (Nat.mul_le_mul_left _ (by omega)) (Nat.le_add_right _ _);have c3:(Y*(2*a+b)+r)*Y'=2*Y*X':=by rw[←e1,Nat.mul_assoc,Nat.mul_comm X' Y,Nat.mul_assoc]
  rw[c1,←c3];exact Nat.mul_le_mul_right _ c2
 have hd:X'/Y'=a:=Nat.div_eq_of_lt_le (by rw[Nat.mul_comm];exact hge) (by rw[Nat.mul_comm];exact hlt);obtain⟨r',hr'⟩: ∃r',X' % Y'=r':=⟨_,rfl⟩;have hX':X'=Y'*a+r':=by rw[←hd,←hr'];exact(Nat.div_add_mod X' Y').symm
 have hr'Y:r'<Y':=by rw[←hr'];exact Nat.mod_lt _ hY'
 have e4:2*r'*Y=(b*Y+r)*Y':=by
  have e5:2*(Y'*a+r')*Y=(Y*(2*a+b)+r)*Y':=by rw[←hX'];exact e1
  have e6:2*(Y'*a+r')*Y=2*Y'*a*Y+2*r'*Y:=by rw[Nat.mul_add,Nat.add_mul,←Nat.mul_assoc]
  have e7:(Y*(2*a+b)+r)*Y'=2*Y'*a*Y+(b*Y+r)*Y':=by
   rw[Nat.mul_add,Nat.add_assoc,Nat.add_mul,Nat.mul_comm Y b]
   congr 1
   rw[Nat.mul_comm Y (2*a),Nat.mul_assoc,Nat.mul_comm Y Y',←Nat.mul_assoc,Nat.mul_assoc 2 a Y',Nat.mul_comm a Y',←Nat.mul_assoc]
  omega
 rw[hq,hr,hd,hr',hA,hB];have hb01:b=0∨b=1:=by omega
 refine⟨rfl, ?_, ?_⟩
 ·constructor
  ·intro h0
   subst h0;have:(b*Y+r)*Y'=0:=by rw[←e4];simp
   have h2:b*Y+r=0:=by
    rcases Nat.mul_eq_zero.1 this with h|h
    ·exact h
    ·omega
   rcases hb01 with rfl|rfl
   ·exact⟨rfl,by omega⟩
   ·omega
  ·rintro⟨rfl,rfl⟩
   have:2*r'*Y=0:=by rw[e4];simp
   rcases Nat.mul_eq_zero.1 this with h|h<;>omega
 ·unfold cmpI
  rcases hb01 with rfl|rfl
  ·rw[if_neg (show¬(0:Nat)=1 by omega)]
   have:r'*2<Y':=by
    refine Nat.lt_of_mul_lt_mul_right (a:=Y) ?_;rw[Nat.mul_comm r' 2,e4,Nat.zero_mul,Nat.zero_add,Nat.mul_comm Y' Y];exact Nat.mul_lt_mul_of_pos_right hrY hY'
   rw[if_pos (by omega)]
  ·rw[if_pos (show(1:Nat)=1 from rfl)]
   rw[Nat.one_mul] at e4
   by_cases h0:r=0
   ·rw[if_pos h0]
    subst h0;have:r'*2=Y':=by
     refine Nat.eq_of_mul_eq_mul_right hY ?_;rw[Nat.mul_comm r' 2,e4,Nat.add_zero,Nat.mul_comm]
    rw[if_neg (by omega),if_neg (by omega)]
   ·rw[if_neg h0]
    have:Y'<r'*2:=by
     refine Nat.lt_of_mul_lt_mul_right (a:=Y) ?_;rw[Nat.mul_comm r' 2,e4,Nat.mul_comm Y' Y];exact Nat.mul_lt_mul_of_pos_right (by omega) hY'
    rw[if_neg (by omega),if_pos (by omega)]
theorem denP_gt {M:Nat} (h:M≠0) (n:Int):0<denP M n:=by
 rw[denP_pow];exact Nat.mul_pos (by omega) (two_pos _)
theorem num_step (N M:Nat) (n:Int):numP N (n+1)*denP M n=2*numP N n*denP M (n+1):=by
 rw[numP_pow,numP_pow,denP_pow,denP_pow]
 by_cases h:0≤n
 ·rw[show(-n).toNat=0 from by omega,show(-(n+1)).toNat=0 from by omega,show(n+1).toNat=n.toNat+1 from by omega,Nat.pow_succ]
  simp only[Nat.pow_zero,Nat.mul_one];rw[←Nat.mul_assoc N,Nat.mul_comm _ 2,←Nat.mul_assoc 2,Nat.mul_assoc 2]
 ·rw[show n.toNat=0 from by omega,show(n+1).toNat=0 from by omega,show(-n).toNat=(-(n+1)).toNat+1 from by omega,Nat.pow_succ]
  simp only[Nat.pow_zero,Nat.mul_one];rw[←Nat.mul_assoc M,←Nat.mul_assoc N,Nat.mul_comm _ 2,←Nat.mul_assoc 2]
theorem round_same {R D L G:Int} {gr qs:Bool} {N1 M1 N2 M2:Nat} {E1 E2 way:Int} (m1:M1≠0) (m2:M2≠0) (ht:topQ N1 M1 E1=topQ N2 M2 E2)
  (h1:numP N1 (E1-((widthN R:Int)*cutP R D L gr N1 M1 E1-1))/denP M1 (E1-((widthN R:Int)*cutP R D L gr N1 M1 E1-1))=numP N2 (E2-((widthN R:Int)*cutP R D L gr N1 M1 E1-1))/denP M2 (E2-((widthN R:Int)*cutP R D L gr N1 M1 E1-1)))
  (h2:numP N1 (E1-((widthN R:Int)*cutP R D L gr N1 M1 E1-1)) % denP M1 (E1-((widthN R:Int)*cutP R D L gr N1 M1 E1-1))=0↔numP N2 (E2-((widthN R:Int)*cutP R D L gr N1 M1 E1-1)) % denP M2 (E2-((widthN R:Int)*cutP R D L gr N1 M1 E1-1))=0):
  roundT R D L G gr qs N1 M1 E1 way=roundT R D L G gr qs N2 M2 E2 way:=by
 have hc:cutP R D L gr N2 M2 E2=cutP R D L gr N1 M1 E1:=by unfold cutP;rw[ht]
 obtain⟨c,hC⟩: ∃c,(widthN R:Int)*cutP R D L gr N1 M1 E1=c:=⟨_,rfl⟩;have s1:=halve_step (denP_gt m1 (E1-c+1)) (denP_gt m1 (E1-c)) (num_step N1 M1 (E1-c));have s2:=halve_step (denP_gt m2 (E2-c+1)) (denP_gt m2 (E2-c)) (num_step N2 M2 (E2-c));rw[hC,show E1-(c-1)=E1-c+1 from by omega,show E2-(c-1)=E2-c+1 from by omega] at h1 h2
 rw[h1] at s1;have hz: ∀x:Int,(if numP N1 (E1-c+1) % denP M1 (E1-c+1)=0 then(0:Int) else x)=if numP N2 (E2-c+1) % denP M2 (E2-c+1)=0 then 0 else x:=fun x=>by
  by_cases g:numP N1 (E1-c+1) % denP M1 (E1-c+1)=0
  ·rw[if_pos g,if_pos (h2.1 g)]
  ·rw[if_neg g,if_neg (fun k=>g (h2.2 k))]
 have w:wholeP R D L gr N1 M1 E1=wholeP R D L gr N2 M2 E2:=by
  unfold wholeP shP;rw[hc,hC,s1.1,s2.1]
 have l:(leftP R D L gr N1 M1 E1=0)=(leftP R D L gr N2 M2 E2=0):=by
  unfold leftP shP;rw[hc,hC];refine propext (s1.2.1.trans (Iff.trans ?_ s2.2.1.symm));rw[h2]
 have l':decide (leftP R D L gr N1 M1 E1=0)=decide (leftP R D L gr N2 M2 E2=0):=by simp only[l]
 have g:goesP R D L gr qs N1 M1 E1 way=goesP R D L gr qs N2 M2 E2 way:=by
  unfold goesP;rw[w];have k1:=s1.2.2;have k2:=s2.2.2;rw[hz] at k1;unfold leftP shP;rw[hc,hC,k1,k2]
 have d:digP R D L gr qs N1 M1 E1 way=digP R D L gr qs N2 M2 E2 way:=by
  unfold digP;rw[w,g,l']
 unfold roundT;rw[d,l',ht,hc]
theorem top_like {J:Int} {N1 M1 N2 M2:Nat} {E1 E2:Int} (n1:N1≠0) (m1:M1≠0) (n2:N2≠0) (m2:M2≠0) (h:Like J N1 M1 E1 N2 M2 E2) (hJ:J≤topQ N1 M1 E1):topQ N1 M1 E1=topQ N2 M2 E2:=by
 have key: ∀{N M:Nat} {E:Int} (i:Int),N≠0→M≠0→(1≤numP N (E-i)/denP M (E-i)↔i≤topQ N M E):=fun {N M E} i hN hM=>by
  have:=whole_ge N M (E-i) 0 hN hM;rw[topQ_zero N M E];rw[Nat.pow_zero] at this
  constructor
  ·intro g;have:=this.1 g;omega
  ·intro g;exact this.2 (by omega)
 have a1:=(key (E:=E1) (topQ N1 M1 E1) n1 m1).2 (Int.le_refl _);have a2:=fun g=>(key (E:=E1) (topQ N1 M1 E1+1) n1 m1).1 g
 rw[(h _ hJ).1] at a1;have b1:=(key (E:=E2) _ n2 m2).1 a1;have b2: ¬topQ N1 M1 E1+1≤topQ N2 M2 E2:=fun g=>by
  have:=(key (E:=E2) _ n2 m2).2 g;rw[←(h _ (by omega)).1] at this;have:=a2 this;omega
 omega
theorem round_like {R D L G J:Int} {gr qs:Bool} {N1 M1 N2 M2:Nat} {E1 E2 way:Int} (n1:N1≠0) (m1:M1≠0) (n2:N2≠0) (m2:M2≠0) (hD:1≤D) (hw:widthN R*D.toNat≤64) (h:Like J N1 M1 E1 N2 M2 E2) (hJ:J+64≤topQ N1 M1 E1):
  roundT R D L G gr qs N1 M1 E1 way=roundT R D L G gr qs N2 M2 E2 way:=by
 have hc:J≤(widthN R:Int)*cutP R D L gr N1 M1 E1-1:=by
  have h1:powerR R D (topQ N1 M1 E1)≤cutP R D L gr N1 M1 E1:=by
   unfold cutP
   split
   ·rename_i g
    simp at g;omega
   ·omega
  have h2:(widthN R:Int)*powerR R D (topQ N1 M1 E1)≤(widthN R:Int)*cutP R D L gr N1 M1 E1:=Int.mul_le_mul_of_nonneg_left h1 (by omega);have h3:topQ N1 M1 E1-63≤(widthN R:Int)*powerR R D (topQ N1 M1 E1):=by
   unfold powerR;have hw1:=widthN_le R;have e:=Int.mul_ediv_add_emod (topQ N1 M1 E1) (widthN R:Int);have l:=Int.emod_lt_of_pos (topQ N1 M1 E1) (b:=(widthN R:Int)) (by omega);rw[Int.mul_sub];have hd:((widthN R*D.toNat:Nat):Int)=(widthN R:Int)*D:=by rw[Int.natCast_mul,Int.toNat_of_nonneg (by omega)]
   rw[Int.mul_sub,Int.mul_one];omega
  omega
 obtain⟨g1,g2⟩:=h _ hc;exact round_same m1 m2 (top_like n1 m1 n2 m2 h (by omega)) g1 g2
theorem frac_same {X1 Y1 X2 Y2:Nat} (h1:0<Y1) (h2:0<Y2) (h:X1*Y2=X2*Y1):X1/Y1=X2/Y2∧(X1 % Y1=0↔X2 % Y2=0):=by
 have key: ∀{X1 Y1 X2 Y2:Nat},0<Y1→0<Y2→X1*Y2=X2*Y1→X2/Y2≤X1/Y1∧(X2 % Y2=0→X1 % Y1=0):=fun {X1 Y1 X2 Y2} h1 h2 h=>by
  refine⟨?_,fun g=> ?_⟩
  ·refine(Nat.le_div_iff_mul_le h1).2 ?_
   refine Nat.le_of_mul_le_mul_right ?_ h2;rw[h,Nat.mul_assoc,Nat.mul_comm Y1 Y2,←Nat.mul_assoc];exact Nat.mul_le_mul_right _ (Nat.div_mul_le_self X2 Y2)
  ·obtain⟨k,hk⟩:=Nat.dvd_of_mod_eq_zero g
   have:X1=Y1*k:=by
    refine Nat.eq_of_mul_eq_mul_right h2 ?_;rw[h,hk,Nat.mul_assoc,Nat.mul_comm k Y1,Nat.mul_comm Y2,Nat.mul_assoc]
   rw[this];exact Nat.mul_mod_right _ _
 have a:=key h1 h2 h;have b:=key h2 h1 h.symm;exact⟨Nat.le_antisymm b.1 a.1,b.2,a.2⟩
theorem dvd_mul_pow {M d x y:Nat} (hM:M≠0) (e:x=M*y):M*2^d∣x↔2^d∣y:=by
 subst e
 constructor
 ·rintro⟨k,hk⟩
  refine⟨k,Nat.eq_of_mul_eq_mul_left (by omega:0<M) ?_⟩;rw[hk,Nat.mul_assoc]
 ·rintro⟨k,rfl⟩
  exact⟨k,by rw[Nat.mul_assoc]⟩
theorem like_endless (N M sh:Nat) (E:Int) (s left:Bool) (hM:M≠0) (hl:left=decide (0<N*2^sh % M)):Like (E-sh) N M E (endlessT s (N*2^sh/M) (E-sh) left).n 1 (endlessT s (N*2^sh/M) (E-sh) left).e:=fun j hj=>by
 obtain⟨d,hd⟩: ∃d:Nat,j=E-sh+d:=⟨(j-(E-sh)).toNat,by omega⟩;subst hd;have c1:=frac_same (X1:=numP N (E-(E-sh+d))) (Y1:=denP M (E-(E-sh+d))) (X2:=N*2^sh) (Y2:=M*2^d) (denP_gt hM _) (Nat.mul_pos (by omega) (two_pos _)) (by
  rw[numP_pow,denP_pow]
  by_cases g:(d:Int)≤sh
  ·rw[show(E-(E-(sh:Int)+(d:Int))).toNat=sh-d from by omega,show(-(E-(E-(sh:Int)+(d:Int)))).toNat=0 from by omega,Nat.pow_zero,Nat.mul_one]
   rw[Nat.mul_assoc,Nat.mul_assoc,Nat.mul_comm M (2^d),←Nat.mul_assoc (2^ (sh-d)),←Nat.pow_add,show sh-d+d=sh from by omega]
  ·rw[show(E-(E-(sh:Int)+(d:Int))).toNat=0 from by omega,show(-(E-(E-(sh:Int)+(d:Int)))).toNat=d-sh from by omega,Nat.pow_zero,Nat.mul_one]
   rw[Nat.mul_assoc N,Nat.mul_comm (2^sh),Nat.mul_assoc M,←Nat.pow_add,show d-sh+sh=d from by omega])
 have hsh:N*2^sh/(M*2^d)=N*2^sh/M/2^d:=(Nat.div_div_eq_div_mul ..).symm;have c2:numP (endlessT s (N*2^sh/M) (E-sh) left).n ((endlessT s (N*2^sh/M) (E-sh) left).e-(E-sh+d))=N*2^sh/M*2+(if left=true then 1 else 0):=by
  rw[numP_pow]
  show(N*2^sh/M*2+(if left=true then 1 else 0))*2^ (E-(sh:Int)-1-(E-(sh:Int)+(d:Int))).toNat=_
  rw[show(E-(sh:Int)-1-(E-(sh:Int)+(d:Int))).toNat=0 from by omega,Nat.pow_zero,Nat.mul_one]
 have c3:denP 1 ((endlessT s (N*2^sh/M) (E-sh) left).e-(E-sh+d))=2*2^d:=by
  rw[denP_pow]
  show 1*2^ (-(E-(sh:Int)-1-(E-(sh:Int)+(d:Int)))).toNat=_
  rw[show(-(E-(sh:Int)-1-(E-(sh:Int)+(d:Int)))).toNat=d+1 from by omega,Nat.pow_succ,Nat.one_mul,Nat.mul_comm]
 rw[c1.1,c2,c3,hsh];obtain⟨q,hq⟩: ∃q,N*2^sh/M=q:=⟨_,rfl⟩;have hdm:=Nat.div_add_mod (N*2^sh) M;rw[hq] at hdm⊢;have hbit:(q*2+(if left=true then 1 else 0))/2=q:=by cases left<;>simp<;>omega
 refine⟨by rw[←Nat.div_div_eq_div_mul,hbit],c1.2.trans ?_⟩;have e2: ∀x y:Nat,x % y=0↔y∣x:=fun x y=>⟨Nat.dvd_of_mod_eq_zero,Nat.mod_eq_zero_of_dvd⟩
 by_cases h0:N*2^sh % M=0
 ·rw[h0,Nat.add_zero] at hdm
  have hlf:left=false:=by rw[hl,h0];rfl
  subst hlf;rw[e2,e2,dvd_mul_pow hM hdm.symm];simp only[Bool.false_eq_true,if_false,Nat.add_zero];rw[Nat.mul_comm q 2]
  constructor
  ·rintro⟨k,hk⟩
   exact⟨k,by rw[hk,Nat.mul_assoc]⟩
  ·rintro⟨k,hk⟩
   exact⟨k,by rw[Nat.mul_assoc] at hk;omega⟩
 ·have hlf:left=true:=by rw[hl];simp;omega
  subst hlf;rw[e2,e2]
  constructor
  ·rintro⟨k,hk⟩
   exfalso
   refine h0 (Nat.mod_eq_zero_of_dvd ⟨2^d*k, ?_⟩);rw[hk,Nat.mul_assoc]
  ·rintro⟨k,hk⟩
   simp only[if_true] at hk;rw[Nat.mul_assoc] at hk;omega
end Go.Proofs.YtnhackdjplppjaaGreatDoor
namespace Go.Proofs.YtnhackdjplppjaaGreatDoor
theorem bit_lt {n k:Nat} (h:bitLen n≤k):n<2^k:=Nat.lt_of_lt_of_le (bitLen_spec n).1 (Nat.pow_le_pow_right (by omega) h)
theorem bit_ge {n j:Nat} (h:j<bitLen n):2^j≤n:=Nat.le_of_not_lt fun g=>by
 have:=bitLen_le_of n j g;omega
theorem pow_dvd_tz {n k:Nat} (h:n≠0):2^k∣n↔k≤tz n:=by
 obtain⟨m,hm⟩:=tz_spec h
 constructor
 ·intro hd
  by_cases g:k≤tz n
  ·exact g
  exfalso
  obtain⟨c,hc⟩:=hd;have e:2^k=2^tz n*(2*2^ (k-tz n-1)):=by
   rw[←Nat.pow_succ',←Nat.pow_add]
   congr 1
   omega
  have h2:2^tz n*(2*m+1)=2^tz n*(2*(2^ (k-tz n-1)*c)):=by
   refine hm.symm.trans (hc.trans ?_);rw[e,Nat.mul_assoc,Nat.mul_assoc]
  have:=Nat.eq_of_mul_eq_mul_left (two_pos (tz n)) h2;omega
 ·intro g
  refine⟨2^ (tz n-k)*(2*m+1), ?_⟩;rw[←Nat.mul_assoc,←Nat.pow_add,show k+(tz n-k)=tz n from by omega]
  exact hm
theorem kept_like (t:Trip) (h0:t.n≠0):Like (t.e+((bitLen t.n-128:Nat):Int)) t.n 1 t.e (keptT t).n 1 (keptT t).e:=by
 unfold keptT
 by_cases g:bitLen t.n≤128
 ·rw[if_pos g]
  exact fun j _=>⟨rfl,Iff.rfl⟩
 ·rw[if_neg g]
  obtain⟨sp,hs⟩: ∃s,bitLen t.n-128=s:=⟨_,rfl⟩;rw[hs];have h1:Like (t.e+(sp:Int)) t.n 1 t.e t.n (2^sp) (t.e+(sp:Int)):=fun j _=>by
   refine frac_same (denP_gt (by omega) _) (denP_gt (by have:=two_pos sp;omega) _) ?_;rw[numP_pow,numP_pow,denP_pow,denP_pow];rw[Nat.one_mul,Nat.mul_assoc,Nat.mul_assoc,←Nat.pow_add,←Nat.pow_add,←Nat.pow_add];refine congrArg (fun x=>t.n*2^x) ?_
   omega
  have h2:=like_endless t.n (2^sp) 0 (t.e+(sp:Int)) t.s (decide (tz t.n<sp)) (by have:=two_pos sp;omega) (by
   rw[Nat.pow_zero,Nat.mul_one,decide_eq_decide];have:=pow_dvd_tz (k:=sp) h0;rw[Nat.dvd_iff_mod_eq_zero] at this;omega)
  simp only[Nat.pow_zero,Nat.mul_one,Int.natCast_zero,Int.sub_zero] at h2;have h3:=h1.trans h2;exact h3.mono (by omega)
theorem kept_parts (t:Trip) (h0:t.n≠0):(keptT t).n≠0∧(keptT t).s=t.s∧(keptT t).n<2^129∧t.e-1≤(keptT t).e∧(keptT t).e≤t.e+((bitLen t.n-128:Nat):Int):=by
 unfold keptT
 by_cases g:bitLen t.n≤128
 ·rw[if_pos g]
  exact⟨h0,rfl,bit_lt (by omega),by omega,by omega⟩
 ·rw[if_neg g]
  obtain⟨sp,hs⟩: ∃s,bitLen t.n-128=s:=⟨_,rfl⟩;rw[hs];have l1:2^ (sp+127)≤t.n:=bit_ge (by omega);have l2:t.n<2^ (sp+128):=bit_lt (by omega);have d1:2^127≤t.n/2^sp:=(Nat.le_div_iff_mul_le (two_pos sp)).2 (by rw[←Nat.pow_add,Nat.add_comm];exact l1);have d2:t.n/2^sp<2^128:=(Nat.div_lt_iff_lt_mul (two_pos sp)).2 (by rw[←Nat.pow_add,Nat.add_comm];exact l2);generalize t.n/2^sp=q at d1 d2;refine⟨?_,rfl, ?_, ?_, ?_⟩
  ·show q*2+(if decide (tz t.n<sp)=true then 1 else 0)≠0
   have:0<2^127:=two_pos _;omega
  ·show q*2+(if decide (tz t.n<sp)=true then 1 else 0)<2^129
   have e:2^129=2^128*2:=Nat.pow_succ ..;have:(if decide (tz t.n<sp)=true then 1 else 0)≤1:=by split<;>omega
   omega
  ·show t.e-1≤t.e+(sp:Int)-1
   omega
  ·show t.e+(sp:Int)-1≤t.e+(sp:Int)
   omega
def rtE (t:Trip):Int:=min (max (keptT t).e (-20000)) 20000
def rtN (t:Trip):Nat:=(keptT t).n*2^ ((keptT t).e-rtE t).toNat
def rtM (t:Trip):Nat:=2^ (rtE t-(keptT t).e).toNat
theorem rt_like (t:Trip) (h0:t.n≠0):Like (t.e+((bitLen t.n-128:Nat):Int)) t.n 1 t.e (rtN t) (rtM t) (rtE t):=by
 refine((kept_like t h0).trans (K:=t.e+((bitLen t.n-128:Nat):Int)) ?_).mono (by omega);refine fun j _=>frac_same (denP_gt (by omega) _) (denP_gt (by unfold rtM;have:=two_pos (rtE t-(keptT t).e).toNat;omega) _) ?_
 unfold rtN rtM;generalize rtE t=r;rw[numP_pow,numP_pow,denP_pow,denP_pow];rw[Nat.one_mul,Nat.mul_assoc,Nat.mul_assoc,Nat.mul_assoc,←Nat.pow_add,←Nat.pow_add,←Nat.pow_add,←Nat.pow_add]
 congr 2
 omega
theorem rt_round {R D L G:Int} {gr:Bool} {way:Int} (t:Trip) (h0:t.n≠0) (hD:1≤D) (hw:widthN R*D.toNat≤64):
  roundT R D L G gr t.s (rtN t) (rtM t) (rtE t) way=roundT R D L G gr t.s t.n 1 t.e way:=by
 have hm:rtM t≠0:=by unfold rtM;have:=two_pos (rtE t-(keptT t).e).toNat;omega
 have hn:rtN t≠0:=by
  unfold rtN;have h1:=(kept_parts t h0).1;have h2:=two_pos ((keptT t).e-rtE t).toNat;exact Nat.mul_ne_zero h1 (by omega)
 by_cases hb:bitLen t.n≤128
 ·--nothing is lost
  have hl:Like (t.e-70) t.n 1 t.e (rtN t) (rtM t) (rtE t):=by
   have hk:keptT t=t:=if_pos hb;refine fun j _=>frac_same (denP_gt (by omega) _) (denP_gt hm _) ?_
   unfold rtN rtM;rw[hk];generalize rtE t=r;rw[numP_pow,numP_pow,denP_pow,denP_pow];rw[Nat.one_mul,Nat.mul_assoc,Nat.mul_assoc,Nat.mul_assoc,←Nat.pow_add,←Nat.pow_add,←Nat.pow_add,←Nat.pow_add]
   congr 2
   omega
  refine(round_like h0 (by omega) hn hm hD hw hl ?_).symm;rw[topQ_one h0];have:bitLen t.n≠0:=fun h=>by
   have:=bit_lt (Nat.le_of_eq h);rw[Nat.pow_zero] at this;omega
  omega
 ·refine(round_like h0 (by omega) hn hm hD hw (rt_like t h0) ?_).symm
  rw[topQ_one h0];omega
end Go.Proofs.YtnhackdjplppjaaGreatDoor
namespace Go.Proofs.YtnhackdjplppjaaGreatDoor
open Go.RowKit
abbrev dsk (k:Nat) (wy:Int):Value:=(ykV (k:Int) wy (famC (k:Int)) (rdN k:Int) (dgN k:Int) (lsI k) (gsI k) (decide (k≤3)))
theorem rd_sing {w:World} {q r:Nat} (h:w.cell? ⟨q,0,none⟩=some (.int .u32 (r:Int))):Rd w .u32 (.slice (some ⟨q,0,none⟩) 1 1) [r]:=
 ⟨_,1,rfl,Nat.le_refl _,by unfold maxLen;omega,fun _=>⟨q,0,rfl,fun i hi=>by
  obtain rfl:i=0:=by simpa using hi
  exact h⟩⟩
theorem greatest_any (k:Nat) (hk:1≤k∧k≤8) (wy:Int) (ng:Bool) (w:World):Calls Tryz.prog 175 #[dsk k wy,.bool ng] w (ValRes w 2 ng (rdN k^dgN k-1) (gsI k)):=by
 have hr:(rdN k=2∨rdN k=16)∧dgN k≤64:=by rcases eight hk with rfl|rfl|rfl|rfl|rfl|rfl|rfl|rfl<;>decide
 have hd:Dg.dg 4294967296 (rdN k)=[rdN k]:=by rcases hr.1 with h|h<;>rw[h]<;>rfl
 have hp:1≤rdN k^dgN k:=Nat.pow_pos (by omega);have hl:(Dg.dg 4294967296 (rdN k^dgN k)).length≤64:=by
  have h4:rdN k^dgN k<2^ (4*dgN k+1):=by
   have:rdN k^dgN k≤16^dgN k:=Nat.pow_le_pow_left (by omega) _;have e:(16:Nat)^dgN k=2^ (4*dgN k):=by rw[Nat.pow_mul]
   rw[Nat.pow_succ];have:=two_pos (4*dgN k);omega
  exact two_len h4 (by omega)
 have hn:(Dg.dg 4294967296 (rdN k^dgN k)).length≠0:=fun h=>by
  have:=(Dg.dg_nil_iff 4294967296 (rdN k^dgN k) (by omega)).1 (List.length_eq_zero_iff.1 h);omega
 refine greatest_W (k:Int) wy (famC (k:Int)) (rdN k:Int) (dgN k:Int) (lsI k) (gsI k) (decide (k≤3)) ng (rdN k) (rdN k^dgN k) w ?_ (fun q w1 _ hq=> ?_) (fun vo vc q w1 hv hq=> ?_)
 ·rcases hr.1 with h|h<;>rw[h]<;>rfl
 ·have h1:=rd_sing hq
  rw[←hd] at h1;exact power_any _ (rdN k) (dgN k) 1 w1 h1 (by omega) (by omega) (by omega) (by omega)
 ·have:=minus_any (.slice vo (Dg.dg 4294967296 (rdN k^dgN k)).length vc) (.slice (some ⟨q,0,none⟩) 1 1) (Dg.dg 4294967296 (rdN k^dgN k)) [1] w1 hv (rd_one hq) (Dg.small_dg _ _ (by omega)) (Dg.small_cons.2 ⟨by omega,Dg.small_nil _ (by omega)⟩) (by omega) (by simp;omega) (by rw[Dg.vl_dg _ _ (by omega),show Dg.vl 4294967296 [1]=1 from rfl];exact hp)
  rwa [Dg.vl_dg _ _ (by omega),show Dg.vl 4294967296 [1]=1 from rfl] at this
def ovV (k:Nat) (wy:Int) (ng:Bool):Int×Bool×Nat×Int:=
 if famC (k:Int)=3 then(5,false,0,0) else if famC (k:Int)=1∧outB wy ng=true then(3,ng,0,0) else(2,ng,rdN k^dgN k-1,gsI k)
theorem fam_cases {k:Nat} (hk:1≤k∧k≤8):famC (k:Int)=1∨famC (k:Int)=2∨famC (k:Int)=3:=by
 rcases eight hk with rfl|rfl|rfl|rfl|rfl|rfl|rfl|rfl<;>decide
theorem dover2_any (k:Nat) (hk:1≤k∧k≤8) (wy:Int) (hw:1≤wy∧wy≤5) (ng:Bool) (w:World):Calls Tryz.prog 145 #[dsk k wy,.bool ng] w (ValRes w (ovV k wy ng).1 (ovV k wy ng).2.1 (ovV k wy ng).2.2.1 (ovV k wy ng).2.2.2):=by
 unfold ovV;have HG:=fun w1=>greatest_any k hk wy ng w1
 unfold dsk at HG⊢
 rcases fam_cases hk with h|h|h
 ·rw[h] at HG⊢
  rw[if_neg (by decide)]
  by_cases ho:outB wy ng=true
  ·rw[if_pos ⟨rfl,ho⟩]
   exact over_A1 _ _ _ _ _ _ _ _ w (fun w1=>by have:=outward_any (k:Int) wy 1 (rdN k:Int) (dgN k:Int) (lsI k) (gsI k) (decide (k≤3)) ng hw w1;rw[ho] at this;exact this)
  ·rw[if_neg (fun c=>ho c.2)]
   exact over_A0 _ _ _ _ _ _ _ _ _ w (fun w1=>by have:=outward_any (k:Int) wy 1 (rdN k:Int) (dgN k:Int) (lsI k) (gsI k) (decide (k≤3)) ng hw w1;rw[show outB wy ng=false by simpa using ho] at this;exact this) (fun w1 _=>HG w1)
 ·rw[h] at HG⊢
  rw[if_neg (by decide),if_neg (fun c=>absurd c.1 (by decide))]
  exact over_B _ _ _ _ _ _ _ _ _ w (fun w1 _=>HG w1)
 ·rw[h,if_pos rfl]
  exact over_C _ _ _ _ _ _ _ _ w (fun w1=>fnothing_any 3 (.inr (.inr rfl)) w1)
def setV (k:Nat) (wy:Int) (P:PlaceT):Int×Bool×Nat×Int×Int:=
 if P.ov=true then((ovV k wy P.s).1,(ovV k wy P.s).2.1,(ovV k wy P.s).2.2.1,(ovV k wy P.s).2.2.2,5)
 else if P.un=true∧P.p<lsI k then(1,false,0,0,3)
 else((if P.d=0 then 1 else 2),P.s,P.d,P.p,if P.ex=true then 0 else if P.un=true then 3 else 1)
theorem settle_any (k:Nat) (hk:1≤k∧k≤8) (wy:Int) (hw:1≤wy∧wy≤5) (P:PlaceT) (ao:Option Addr) (ca:Nat) (w:World) (hr:Rd w .u32 (.slice ao (Dg.dg 4294967296 P.d).length ca) (Dg.dg 4294967296 P.d)):
  Calls Tryz.prog 88 #[dsk k wy,ypV P.s (.slice ao (Dg.dg 4294967296 P.d).length ca) P.p P.ex P.ov P.un] w (SetRes w (setV k wy P).1 (setV k wy P).2.1 (setV k wy P).2.2.1 (setV k wy P).2.2.2.1 (setV k wy P).2.2.2.2):=by
 obtain⟨ps,pd,pp,ex,ov,un⟩:=P;unfold setV;simp only at hr⊢
 cases ov
 ·rw[if_neg (by decide)]
  by_cases hl:un=true∧pp<lsI k
  ·rw[if_pos hl]
   obtain⟨rfl,hl⟩:=hl;exact settle_low _ _ _ _ _ _ _ _ _ _ _ _ _ _ w hl
  ·rw[if_neg hl]
   have hz:(if pd=0 then(1:Int) else 2)=if(Dg.dg 4294967296 pd).length=0 then 1 else 2:=by
    by_cases h:pd=0
    ·rw[if_pos h,if_pos (by rw[h];rfl)]
    ·rw[if_neg h,if_neg (fun c=>h ((Dg.dg_nil_iff 4294967296 pd (by omega)).1 (List.length_eq_zero_iff.1 c)))]
   exact settle_in _ _ _ _ _ _ _ _ _ _ _ _ _ _ _ pd w rfl hr (fun h c=>hl ⟨h,c⟩) _ _ hz rfl
 ·rw[if_pos rfl]
  exact settle_over _ _ _ _ _ _ _ _ _ _ _ _ _ _ _ _ _ _ _ w (fun w1 _=>dover2_any k hk wy hw ps w1)
def encT (k:Nat) (c:Int) (g:Bool) (m:Nat) (p fl:Int):ByteArray×Int×Int:=
 if encE (k:Int) c g (Dg.dg 4294967296 m) p=0 then(encS (k:Int) c g (Dg.dg 4294967296 m) p,fl,0) else(⟨#[]⟩,0,encE (k:Int) c g (Dg.dg 4294967296 m) p)
abbrev ans3 (r:ByteArray×Int×Int) (w:World) (z:Ending) (w':World):Prop:=z= .returned (.tuple #[.string r.1,yi r.2.1,yi r.2.2])∧Below w.heap.size w w'
theorem dencode_any (k:Nat) (wy c p fl:Int) (g:Bool) (m:Nat) (ao:Option Addr) (ca:Nat) (w:World) (hr:Rd w .u32 (.slice ao (Dg.dg 4294967296 m).length ca) (Dg.dg 4294967296 m)) (hT:Tab w):
  Calls Tryz.prog 87 #[dsk k wy,yvV c g (.slice ao (Dg.dg 4294967296 m).length ca) p,yi fl] w (ans3 (encT k c g m p fl) w):=by
 have:=dencode_W (k:Int) wy (famC (k:Int)) (rdN k:Int) (dgN k:Int) (lsI k) (gsI k) c p fl _ (decide (k≤3)) g ao (Dg.dg 4294967296 m).length ca _ w (fun w1 b1=>encode_any (k:Int) c g ao ca (Dg.dg 4294967296 m) p w1 (hr.later b1) (Dg.small_dg _ _ (by omega)) (hT.later b1))
 refine this.mono (fun z w' h=>⟨?_,h.2⟩)
 rw[h.1];unfold encT
 by_cases c0:encE (k:Int) c g (Dg.dg 4294967296 m) p=0
 ·rw[if_pos c0,if_pos c0]
 ·rw[if_neg c0,if_neg c0]
theorem kept_any (t:Trip) (to0:Option Addr) (tc:Nat) (w:World) (hr:Rd w .u32 (.slice to0 (Dg.dg 4294967296 t.n).length tc) (Dg.dg 4294967296 t.n)) (hb:bitLen t.n≤100000) (e1: -100000≤t.e) (e2:t.e≤100000) (hT:Tab w):
  Calls Tryz.prog 210 #[yDV t to0 tc,yi 128] w fun z w'=> ∃v,z= .returned (.agg #[.bool (keptT t).s,v,yi (keptT t).e])∧Rd w' .u32 v (Dg.dg 4294967296 (keptT t).n)∧Below w.heap.size w w':=by
 have hL:(Dg.dg 4294967296 t.n).length≤100000:=two_len (bit_lt (Nat.le_refl _)) (by omega)
 by_cases hs:bitLen t.n≤128
 ·rw[show keptT t=t from if_pos hs]
  exact(kept_short t to0 tc w hr hL hs).mono (fun z w' h=>⟨_,h.1,hr.later h.2,h.2⟩)
 ·have h0:t.n≠0:=fun h=>hs (by rw[h];exact Nat.le_of_lt_succ (by rw[show bitLen 0=0 from rfl];omega))
  obtain⟨sp,hsp⟩: ∃s:Nat,bitLen t.n-128=s:=⟨_,rfl⟩;have hk:keptT t=endlessT t.s (t.n/2^sp) (t.e+(sp:Int)) (decide (tz t.n<sp)):=by
   unfold keptT;rw[if_neg hs,hsp]
  rw[hk];have hL2:(Dg.dg 4294967296 (t.n/2^sp)).length≤100000:=Nat.le_trans (dg_len_mono 4294967296 _ _ (by omega) (Nat.div_le_self _ _)) hL;refine kept_W t _ to0 tc (t.n/2^sp) (bitLen t.n:Int) (sp:Int) (-(sp:Int)) (tz t.n:Int) (t.e+(sp:Int)) w ?_ (by omega) ?_ ?_ (fun w1=>digits_any _ _ _ _ _ w1) (fun w1 b=> ?_) (fun w1 b=> ?_) (fun w1 b=> ?_) (fun mo mc w1 hm=> ?_)
  ·rw[show((bitLen t.n:Nat):Int)-128=(sp:Int) from by omega]
   exact IntWalk.i64_in _ ⟨by omega,by omega⟩
  ·exact IntWalk.i64_in _ ⟨by omega,by omega⟩
  ·exact IntWalk.i64_in _ ⟨by omega,by omega⟩
  ·have:=bits_any _ (Dg.dg 4294967296 t.n) w1 (hr.later b) (Dg.small_dg _ _ (by omega)) (Dg.norm_dg _ _ (by omega)) (by omega)
   rwa [Dg.vl_dg _ _ (by omega)] at this
  ·have:=twos_any _ t.n w1 (hr.later b) (by omega) (hT.later b)
   rwa [if_neg h0] at this
  ·have:=shifted_any _ (Dg.dg 4294967296 t.n) (-(sp:Int)) w1 (hr.later b) (Dg.small_dg _ _ (by omega)) (by omega) (by omega) (by omega)
   rwa [Dg.vl_dg _ _ (by omega),show shN t.n (-(sp:Int))=t.n/2^sp from by
    unfold shN;rw[if_pos (by omega),show(-(-(sp:Int))).toNat=sp from by omega]] at this
  ·have:=endless_any t.s _ (t.n/2^sp) (t.e+(sp:Int)) (decide ((tz t.n:Int)< (sp:Int))) w1 hm (by omega) (by omega) (by omega)
   rwa [show decide ((tz t.n:Int)< (sp:Int))=decide (tz t.n<sp) from decide_eq_decide.2 (by omega)] at this⊢
end Go.Proofs.YtnhackdjplppjaaGreatDoor
namespace Go.Proofs.YtnhackdjplppjaaGreatDoor
open Go.RowKit
def Near (t:Trip):Prop:= -50000≤t.e∧t.e+(bitLen t.n:Int)≤50000
theorem rt_near {t:Trip} (h0:t.n≠0) (h:Near t):(Dg.dg 4294967296 (rtN t)).length≤1200∧(Dg.dg 4294967296 (rtM t)).length≤1200∧ -20000≤rtE t∧rtE t≤20000:=by
 obtain⟨h1,h2⟩:=h;obtain⟨k1,k2,k3,k4,k5⟩:=kept_parts t h0;have hk:(keptT t).e≤50000:=by
  by_cases g:bitLen t.n≤128
  ·rw[show keptT t=t from if_pos g]
   omega
  ·omega
 have hE: -20000≤rtE t∧rtE t≤20000:=by unfold rtE;omega
 refine⟨?_, ?_,hE⟩
 ·have:rtN t<2^ (129+((keptT t).e-rtE t).toNat):=by
   unfold rtN;rw[Nat.pow_add];exact Nat.mul_lt_mul_of_pos_right k3 (two_pos _)
  exact two_len this (by unfold rtE;omega)
 ·have:rtM t<2^ ((rtE t-(keptT t).e).toNat+1):=by
   unfold rtM;exact Nat.pow_lt_pow_right (by omega) (by omega)
  exact two_len this (by unfold rtE;omega)
theorem ratioOf_any (t:Trip) (to0:Option Addr) (tc:Nat) (w:World) (h0:t.n≠0) (hn:Near t) (hr:Rd w .u32 (.slice to0 (Dg.dg 4294967296 t.n).length tc) (Dg.dg 4294967296 t.n)) (hT:Tab w):
  Calls Tryz.prog 164 #[yDV t to0 tc] w (RatRes w t.s (rtN t) (rtM t) (rtE t)):=by
 obtain⟨h1,h2⟩:=hn;obtain⟨k1,k2,k3,k4,k5⟩:=kept_parts t h0;have hk:(keptT t).e≤50000:=by
  by_cases g:bitLen t.n≤128
  ·rw[show keptT t=t from if_pos g]
   omega
  ·omega
 have hL:(Dg.dg 4294967296 (keptT t).n).length≤5:=two_len k3 (by omega);have HK:=fun w1 (b:Below w.heap.size w w1)=>kept_any t to0 tc w1 (hr.later b) (by omega) (by omega) (by omega) (hT.later b)
 have hmx:min (max (keptT t).e (-20000)) 20000=rtE t:=by rw[rtE]
 have key:Calls Tryz.prog 164 #[yDV t to0 tc] w (RatRes w (keptT t).s (rtN t) (rtM t) (rtE t)):=by
  by_cases hlt:rtE t< (keptT t).e
  ·have h20:rtE t=20000∨rtE t= -20000:=by unfold rtE at hlt⊢;omega
   refine ratioOf_W t (keptT t) to0 tc (rtE t) ((keptT t).e-rtE t) (rtN t) (rtM t) w hmx HK (fun _=>⟨IntWalk.i64_in _ ⟨by omega,by omega⟩, ?_,fun ko kc w1 hk2=> ?_⟩) (fun h=>by omega)
   ·unfold rtM
    rw[show(rtE t-(keptT t).e).toNat=0 from by omega,Nat.pow_zero]
   ·have:=shifted_any _ (Dg.dg 4294967296 (keptT t).n) ((keptT t).e-rtE t) w1 hk2 (Dg.small_dg _ _ (by omega)) (by omega) (by omega) (by omega)
    rwa [Dg.vl_dg _ _ (by omega),show shN (keptT t).n ((keptT t).e-rtE t)=rtN t from by unfold shN rtN;rw[if_neg (by omega)]] at this
  ·have hE: -20000≤rtE t∧rtE t≤20000:=by unfold rtE;omega
   refine ratioOf_W t (keptT t) to0 tc (rtE t) (rtE t-(keptT t).e) (rtN t) (rtM t) w hmx HK (fun h=>by omega) (fun _=>⟨IntWalk.i64_in _ ⟨by omega,by omega⟩, ?_,fun q w1 hq=> ?_⟩)
   ·unfold rtN
    rw[show((keptT t).e-rtE t).toNat=0 from by omega,Nat.pow_zero,Nat.mul_one]
   ·have:=shifted_any (.slice (some ⟨q,0,none⟩) 1 1) [1] (rtE t-(keptT t).e) w1 (rd_one hq) (Dg.small_cons.2 ⟨by omega,Dg.small_nil _ (by omega)⟩) (by simp) (by omega) (by omega)
    rwa [show Dg.vl 4294967296 [1]=1 from rfl,show shN 1 (rtE t-(keptT t).e)=rtM t from by unfold shN rtM;rw[if_neg (by omega),Nat.one_mul]] at this
 rw[k2] at key;exact key
def plcT (k:Nat) (wy:Int) (t:Trip):PlaceT:=roundT (rdN k:Int) (dgN k:Int) (lsI k) (gsI k) (decide (k≤3)) t.s t.n 1 t.e wy
theorem round_plc (k:Nat) (hk:1≤k∧k≤8) (wy:Int) (hw:1≤wy∧wy≤5) (t:Trip) (h0:t.n≠0) (hn:Near t):
  roundC (Dg.dg 4294967296 (rtN t)) (Dg.dg 4294967296 (rtM t)) (rtE t) (rdN k:Int) (dgN k:Int) (lsI k) (gsI k) wy=0∧roundP (Dg.dg 4294967296 (rtN t)) (Dg.dg 4294967296 (rtM t)) (rtE t) (rdN k:Int) (dgN k:Int) (lsI k) (gsI k) (decide (k≤3)) t.s wy=plcT k wy t:=by
 obtain⟨l1,l2,l3,l4⟩:=rt_near h0 hn;obtain⟨-,-,d1,-,-,-,-,-,w64,-,-,hg⟩:=fmt_fit hk;have hm:rtM t≠0:=by unfold rtM;have:=two_pos (rtE t-(keptT t).e).toNat;omega
 have hnn:rtN t≠0:=by
  unfold rtN;exact Nat.mul_ne_zero (kept_parts t h0).1 (by have:=two_pos ((keptT t).e-rtE t).toNat;omega)
 have ne: ∀{x:Nat},x≠0→(Dg.dg 4294967296 x).length≠0:=fun {x} h c=>h ((Dg.dg_nil_iff 4294967296 x (by omega)).1 (List.length_eq_zero_iff.1 c))
 have hC:roundC (Dg.dg 4294967296 (rtN t)) (Dg.dg 4294967296 (rtM t)) (rtE t) (rdN k:Int) (dgN k:Int) (lsI k) (gsI k) wy=0:=by
  have hno: ¬((Dg.dg 4294967296 (rtM t)).length=0∨farB 20000 (rtE t)=true):=fun c=>by
   rcases c with c|c
   ·exact ne hm c
   ·unfold farB at c
    simp at c;omega
  have hq:ratioC (Dg.dg 4294967296 (rtN t)) (Dg.dg 4294967296 (rtM t)) (rtE t)=0:=by
   unfold ratioC;rw[if_pos (chk_of (Dg.norm_dg _ _ (by omega)) l1),if_pos (chk_of (Dg.norm_dg _ _ (by omega)) l2),if_neg hno]
  have hy:isWay wy=true:=by unfold isWay;simpa using hw
  have hwg:wrongG (ratioC (Dg.dg 4294967296 (rtN t)) (Dg.dg 4294967296 (rtM t)) (rtE t)) (gridC (rdN k:Int) (dgN k:Int) (lsI k) (gsI k))=0:=by
   unfold wrongG;rw[if_pos hq,hg]
  unfold roundC;rw[if_pos hwg,if_pos hy]
 refine⟨hC, ?_⟩;unfold roundP;rw[if_pos hC,if_neg (ne hnn),Dg.vl_dg _ _ (by omega),Dg.vl_dg _ _ (by omega)];exact rt_round t h0 (by omega) (by rw[Int.toNat_natCast];exact w64)
def ansT (k:Nat) (wy c:Int) (g:Bool) (t:Trip) (fl:Int):ByteArray×Int×Int:=
 if c=2 then encT k (setV k wy (plcT k wy t)).1 (setV k wy (plcT k wy t)).2.1 (setV k wy (plcT k wy t)).2.2.1 (setV k wy (plcT k wy t)).2.2.2.1 (bits .or .i64 fl (setV k wy (plcT k wy t)).2.2.2.2)
 else if c=1 then encT k 1 (g&&decide (famC (k:Int)=1)) 0 0 fl else encT k c g 0 0 fl
theorem answer_any (k:Nat) (hk:1≤k∧k≤8) (wy:Int) (hw:1≤wy∧wy≤5) (c fl:Int) (g:Bool) (t:Trip) (ro:Option Addr) (rc:Nat) (w:World) (hc:c=2→t.n≠0∧Near t) (hr:Rd w .u32 (.slice ro (Dg.dg 4294967296 t.n).length rc) (Dg.dg 4294967296 t.n)) (hT:Tab w):
  Calls Tryz.prog 107 #[dsk k wy,yOV c g t ro rc,yi fl] w (ans3 (ansT k wy c g t fl) w):=by
 unfold ansT
 by_cases h2:c=2
 ·subst h2
  rw[if_pos rfl];obtain⟨h0,hn⟩:=hc rfl;obtain⟨p1,p2⟩:=round_plc k hk wy hw t h0 hn;refine answer_num (k:Int) wy (famC (k:Int)) (rdN k:Int) (dgN k:Int) (lsI k) (gsI k) fl (decide (k≤3)) g t ro rc t.s (rtN t) (rtM t) (rtE t) (plcT k wy t).s (plcT k wy t).d (plcT k wy t).p (plcT k wy t).ex (plcT k wy t).ov (plcT k wy t).un _ _ _ _ _ _ _ _ _ w rfl (fun w1 b=>ratioOf_any t ro rc w1 h0 hn (hr.later b) (hT.later b)) (fun no nc mo mc w1 b r1 r2=> ?_) (fun po pc w1 b r1=>settle_any k hk wy hw (plcT k wy t) po pc w1 r1) (fun vo vc w1 b r1=>dencode_any k wy _ _ _ _ _ vo vc w1 r1 (hT.later b))
  have:=gRound_any t.s no nc (Dg.dg 4294967296 (rtN t)) mo mc (Dg.dg 4294967296 (rtM t)) (rtE t) (rdN k:Int) (dgN k:Int) (lsI k) (gsI k) (decide (k≤3)) wy w1 r1 r2 (Dg.small_dg _ _ (by omega)) (Dg.small_dg _ _ (by omega));rw[p1,p2] at this;exact this.mono (fun z w' h=>by
   obtain⟨v,rfl,own,b2⟩:=h;obtain⟨po,pc,hv⟩:=own.rd.shape;subst hv;exact⟨po,pc,rfl,own.rd,b2⟩)
 ·rw[if_neg h2]
  have HE:=fun c' g' w1 (b:Below w.heap.size w w1)=>dencode_any k wy c' 0 fl g' 0 none 0 w1 (rd_nil _ _) (hT.later b)
  by_cases h1:c=1
  ·subst h1
   rw[if_pos rfl]
   cases g
   ·exact answer_zf _ _ _ _ _ _ _ _ _ _ _ _ _ _ _ w (fun w1 b=>HE 1 false w1 b)
   ·rcases fam_cases hk with hf|hf
    ·rw[hf]
     unfold dsk;rw[hf];exact answer_z1 _ _ _ _ _ _ _ _ _ _ _ _ _ _ w (fun w1 b=>by have:=HE 1 true w1 b;unfold dsk at this;rw[hf] at this;exact this)
    ·rw[decide_eq_false (by omega)]
     exact answer_z2 _ _ _ _ _ _ _ _ _ _ _ _ _ _ _ w (by simp;omega) (fun w1 b=>HE 1 false w1 b)
  ·rw[if_neg h1]
   exact answer_oth c g _ _ _ _ _ _ _ _ _ _ _ _ _ _ _ w (by simpa using h2) (by simpa using h1) (fun w1 b=>HE c g w1 b)
end Go.Proofs.YtnhackdjplppjaaGreatDoor

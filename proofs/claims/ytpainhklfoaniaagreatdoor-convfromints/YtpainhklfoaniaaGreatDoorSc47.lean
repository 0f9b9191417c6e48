/-
  Texts laid together: Oq5, Pa6, Ra2, Ra3, Ga5, Ra4, Dp1.
-/
import Derived.Test.YtpainhklfoaniaaGreatDoorSc46
set_option maxRecDepth 100000
set_option maxHeartbeats 3200000
namespace Go.Proofs.YtpainhklfoaniaaGreatDoor
open _root_.Go.Proofs.Tryz
open Go.RowKit
theorem Qc (n way:Int)(ps:List ByteArray)(pb:Nat)(w:World)(hps:au w pb 9 (ps.map Value.string))(hm:ps.length≤3):
  yC 18 #[yi n,yi way,.slice (some ⟨pb,0,none⟩) ps.length ps.length] w (Ri w n ps (CK n way ps)):=by
 by_cases hf:dK n=0
 ·exact Mz n way _ _ _ _ _ _ _ _ _ false (iC way) ps pb w hps hm (by simpa using hf) rfl (fun w1=>oT n w1 hf) (fun p w1=>xu n p w1) (fun p w1 h=>mW n p w1 h) (fun w1=>qi way w1)
 ·obtain⟨h1,h2,h3⟩:=fF hf
  obtain⟨k,rfl⟩: ∃k:Nat,n=(k:Int):=⟨n.toNat,h3.symm⟩;rw[Int.toNat_natCast] at h1 h2;exact Mz (k:Int) way _ _ _ _ _ _ _ _ _ true (iC way) ps pb w hps hm (by simpa using hf) rfl (fun w1=>sU k ⟨h1,h2⟩ w1) (fun p w1=>xu _ p w1) (fun p w1 h=>mW _ p w1 h) (fun w1=>qi way w1)
theorem acu {k:Nat}(hk:1≤k∧k≤8){p:ByteArray}(h:dF k p=0):
  opT k p=rfT k p∧dz k p=rfG k p∧bM k p=dh k (aZ k p) (aR k p) (aU k p)∧rfT k p=nxT k p:=by
 unfold opT rfT dz rfG bM nxT;rw[if_pos h,if_pos h,if_pos h,Int.toNat_natCast,Nu hk];exact⟨rfl,rfl,rfl,rfl⟩
theorem zl {n:Int}{p:ByteArray}(h:dF n p=0):1≤bM n p∧bM n p≤5:=by
 unfold bM;rw[if_pos h];have:=DV n.toNat (aZ n.toNat p) (aR n.toNat p) (aU n.toNat p);omega
theorem EV {k:Nat}(hk:1≤k∧k≤8):ia (rdN k) (dgN k) (lsI k) (gsI k) (decide (k≤3)) (rdN k^dgN k-1) (gsI k):=by
 refine .inr ?_
 rcases bO hk with rfl|rfl|rfl|rfl|rfl|rfl|rfl|rfl<;>decide
theorem fam_one {k:Nat}(hk:1≤k∧k≤8):dK k=1↔k≤3:=by
 rcases bO hk with rfl|rfl|rfl|rfl|rfl|rfl|rfl|rfl<;>decide
structure Rnd (k:Nat) (P:fz):Prop where
 plc:Plc k P
 nil0:P.d=0→P.p=0
 spot:P.ov=false→ ¬(P.un=true∧P.p<lsI k)→P.d≠0→ia (rdN k) (dgN k) (lsI k) (gsI k) (decide (k≤3)) P.d P.p
theorem rnd_of {k:Nat}(hk:1≤k∧k≤8)(s:Bool)(N M:Nat)(E way:Int)(hN:N≠0)(hM:M≠0):Rnd k (cI (rdN k) (dgN k) (lsI k) (gsI k) (decide (k≤3)) s N M E way):=by
 obtain⟨-,-,d1,-,l1,l0,lg,g2,w64,-,ww,hg⟩:=eR hk;have hD:(1:Int)≤(dgN k:Int):=by omega
 have hfk:=fam_one hk;have hrs:=nW (R:=(rdN k:Int)) (D:=(dgN k:Int)) (L:=lsI k) (G:=gsI k) (gr:=decide (k≤3)) (qs:=s) (N:=N) (M:=M) (E:=E) (way:=way) hD lg hN hM;rw[kJ _ s N M E way hD lg hN hM] at hrs⊢;have hwl:=rP (rdN k) (dgN k) (lsI k) (decide (k≤3)) N M E hD hN hM;have hwp:=Vf (rdN k) (dgN k) (lsI k) (decide (k≤3)) N M E hD hN hM;have hds:=uh (rdN k) (dgN k) (lsI k) (decide (k≤3)) N M E hD hN hM (dj (rdN k) (dgN k) (lsI k) (decide (k≤3)) N M E);have hdz:=CD (rdN k) (dgN k) (fM (rdN k) (dgN k) (lsI k) (decide (k≤3)) s N M E way);have hdg:=KL (rdN k) (dgN k) (lsI k) (decide (k≤3)) s N M E way;have hd1:fM (rdN k) (dgN k) (lsI k) (decide (k≤3)) s N M E way≤cH (rdN k) (dgN k) (lsI k) (decide (k≤3)) N M E+1:=by
  unfold fM
  split<;>omega
 have hdn:gF (rdN k) (dgN k) (lsI k) (decide (k≤3)) N M E=0→fM (rdN k) (dgN k) (lsI k) (decide (k≤3)) s N M E way=cH (rdN k) (dgN k) (lsI k) (decide (k≤3)) N M E:=fun h=>by
  unfold fM;rw[if_neg (fun c=>of_decide_eq_false c.1 h)]
 have hcut:(k≤3→lsI k≤dj (rdN k) (dgN k) (lsI k) (decide (k≤3)) N M E)∧(¬k≤3→dj (rdN k) (dgN k) (lsI k) (decide (k≤3)) N M E=aT (rdN k) (dgN k) (dY N M E)):=by
  unfold dj;refine⟨fun h=> ?_,fun h=> ?_⟩
  ·rw[decide_eq_true h,Bool.and_true]
   split
   ·exact Int.le_refl _
   ·rename_i c
    simpa using c
  ·rw[decide_eq_false h,Bool.and_false,if_neg (by decide)]
 have hcP:gD (rdN k) (dgN k) (fM (rdN k) (dgN k) (lsI k) (decide (k≤3)) s N M E way) (dj (rdN k) (dgN k) (lsI k) (decide (k≤3)) N M E)=dj (rdN k) (dgN k) (lsI k) (decide (k≤3)) N M E∨(gD (rdN k) (dgN k) (fM (rdN k) (dgN k) (lsI k) (decide (k≤3)) s N M E way) (dj (rdN k) (dgN k) (lsI k) (decide (k≤3)) N M E)=dj (rdN k) (dgN k) (lsI k) (decide (k≤3)) N M E+1∧io (rdN k) (dgN k) (fM (rdN k) (dgN k) (lsI k) (decide (k≤3)) s N M E way)=2^ (ai (rdN k)*((dgN k:Int)-1).toNat)):=by
  unfold gD io
  split
  ·exact .inr ⟨rfl,rfl⟩
  ·exact .inl rfl
 have hpw:2^ (ai (rdN k)*((dgN k:Int)-1).toNat)<2^ (ai (rdN k)*(dgN k:Int).toNat):=by
  refine Nat.pow_lt_pow_right (by omega) (Nat.mul_lt_mul_of_pos_left ?_ (by omega));omega
 have hcl:io (rdN k) (dgN k) (fM (rdN k) (dgN k) (lsI k) (decide (k≤3)) s N M E way)<2^ (ai (rdN k)*(dgN k:Int).toNat):=by
  unfold io
  split
  ·exact hpw
  ·omega
 have hlen:(Dg.dg 65536 (io (rdN k) (dgN k) (fM (rdN k) (dgN k) (lsI k) (decide (k≤3)) s N M E way))).length≤100000:=by
  refine Nat.le_trans (Dg.dg_len_le 65536 _ 4 (by omega) (Nat.lt_of_lt_of_le hcl ?_)) (by omega);rw[Int.toNat_natCast];exact Nat.le_trans (Nat.pow_le_pow_right (by omega) w64) (by decide)
 generalize fM (rdN k) (dgN k) (lsI k) (decide (k≤3)) s N M E way=dg at*;generalize dj (rdN k) (dgN k) (lsI k) (decide (k≤3)) N M E=ct at*;generalize aT (rdN k) (dgN k) (dY N M E)=pw at*;generalize cH (rdN k) (dgN k) (lsI k) (decide (k≤3)) N M E=wh at*;generalize gF (rdN k) (dgN k) (lsI k) (decide (k≤3)) N M E=lf at*;generalize hcPe:gD (rdN k) (dgN k) dg ct=cp at*;generalize hcDe:io (rdN k) (dgN k) dg=cd at*;have hpos: ¬k≤3→cd≠0:=fun h c=>by
  have:=hwp (hcut.2 h);have:=hdz.1 c;omega
 refine⟨⟨fun hf hl=> ?_,fun hf ho hu he=> ?_,fun ho hd=> ?_,hlen,fun ho=> ?_⟩,fun hd=>if_pos hd,fun ho hnl hd=> ?_⟩
 ·simp only at hl
  have h3:=hfk.1 hf;have:=hcut.1 h3
  exfalso
  split at hl<;>omega
 ·simp only at ho hu he⊢
  have h3: ¬k≤3:=fun c=>hf (hfk.2 c)
  have e1:=hdn (of_decide_eq_true he);have e2:=hcut.2 h3;have e3:=of_decide_eq_true hu;rw[if_neg (hpos h3)];rw[e1,hds.2] at hcPe;omega
 ·exact hfk.2 (Decidable.byContradiction fun h3=>hpos h3 hd)
 ·simp only at ho⊢
  have hG:=of_decide_eq_false ho
  by_cases h3:k≤3
  ·have:=hcut.1 h3
   right
   split<;>omega
  ·rw[if_neg (hpos h3)]
   have e2:=hcut.2 h3
   by_cases hl:cp<lsI k
   ·left
    exact⟨decide_eq_true (by omega),hl⟩
   ·right
    omega
 ·simp only at ho hnl hd⊢
  rw[if_neg hd] at hnl⊢
  by_cases h3:k≤3
  ·have:=hrs ho (.inr (decide_eq_true h3))
   rw[if_neg hd] at this;exact this
  ·by_cases hu:pw<lsI k
   ·have e2:=hcut.2 h3
    have hl: ¬cp<lsI k:=fun c=>hnl ⟨decide_eq_true hu,c⟩
    have hG:=of_decide_eq_false ho;obtain⟨c1,c2⟩:=hcP.resolve_left (by omega);exact .inr ⟨hd,by omega,by omega,hcl,.inl (by omega)⟩
   ·have:=hrs ho (.inl (decide_eq_false hu))
    rw[if_neg hd] at this;exact this
def SameV (k:Nat)(r:ByteArray×Int×Int)(v:Int×Bool×ak×Int):Prop:=
 r.2.2=0∧r.2.1=v.2.2.2∧ ∀so sc w,Rd w .i64 (yS so v.2.2.1.n sc) (Dg.dg 65536 v.2.2.1.n)→yC 52 #[yi k,yoV v.1 v.2.1 v.2.2.1.s (yS so v.2.2.1.n sc) v.2.2.1.e] w (yR w (.string r.1))
theorem same_num {k:Nat}(hk:1≤k∧k≤8)(g:Bool){m:Nat}{p:Int}(fl:Int)(hm:m≠0)(hs:ia (rdN k) (dgN k) (lsI k) (gsI k) (decide (k≤3)) m p):SameV k (Dw k 2 g m p fl) (2,g,bare ⟨g,m,(ai (rdN k):Int)*p⟩,fl):=by
 obtain⟨-,-,d1,-,-,-,lg,-,w64,-,-,hg⟩:=eR hk;obtain⟨l15,p1,p2,w1',w2',t480⟩:=qj hg hs;have hh:=mI (s:=g) hg hs;have hc:chk (Dg.dg 4294967296 m)=0:=pJ (Dg.norm_dg _ _ (by omega)) (by omega);have hl0:(Dg.dg 4294967296 m).length≠0:=fun c=>hm ((Dg.dg_nil_iff 4294967296 _ (by omega)).1 (List.length_eq_zero_iff.1 c))
 have hsh:=Af (s:=g) hg hs;have hb0:(bare ⟨g,m,(ai (rdN k):Int)*p⟩).n≠0:=fun c=>hm ((fI _).1 c)
 have hbs:(bare ⟨g,m,(ai (rdN k):Int)*p⟩).s=g:=by unfold bare;rw[if_neg hm]
 have hE:enE k g (Dg.dg 4294967296 m) p=0:=by
  rw[mY hk hc hl0 (by omega),Dg.vl_dg _ _ (by omega),jK _ _ lg];rw[nN _ _ lg] at hh;rw[hh,if_pos rfl]
 have hS:fq k 2 g (Dg.dg 4294967296 m) p=cF (kU k g (heE (rdN k) (lsI k) (gW k) (plT k g (bare ⟨g,m,(ai (rdN k):Int)*p⟩).n (bare ⟨g,m,(ai (rdN k):Int)*p⟩).e)) (plT k g (bare ⟨g,m,(ai (rdN k):Int)*p⟩).n (bare ⟨g,m,(ai (rdN k):Int)*p⟩).e).d):=by
  have hN:enN k g (Dg.dg 4294967296 m) p=(bare ⟨g,m,(ai (rdN k):Int)*p⟩,0):=hsh;have hps:(plT k g (bare ⟨g,m,(ai (rdN k):Int)*p⟩).n (bare ⟨g,m,(ai (rdN k):Int)*p⟩).e).s=g:=(oj (s:=g) (way:=3) (by omega) lg hb0 hh).1;rw[(xH hk hc).2];unfold enS;rw[if_pos hE,hN];simp only;rw[hbs,hps]
 unfold Dw;rw[(xH hk hc).1,hE,if_pos rfl,hS];refine⟨rfl,rfl,fun so sc w hr=> ?_⟩
 simp only at hr⊢;have hbn:=kR ⟨g,m,(ai (rdN k):Int)*p⟩;obtain⟨b1,b2,b3⟩:=gN (t:=⟨g,m,(ai (rdN k):Int)*p⟩) hm;simp only at b2 hbn;have hlen:(Dg.dg 65536 (bare ⟨g,m,(ai (rdN k):Int)*p⟩).n).length≤20000:=by
  have hlt:m<4294967296^15:=by
   have:=Dg.vl_lt 4294967296 _ (Dg.small_dg 4294967296 m (by omega));rw[Dg.vl_dg _ _ (by omega)] at this;exact Nat.lt_of_lt_of_le this (Nat.pow_le_pow_right (by omega) l15)
  refine Nat.le_trans (Dg.dg_len_le 65536 _ 30 (by omega) (Nat.lt_of_le_of_lt hbn (Nat.lt_of_lt_of_le hlt ?_))) (by omega);exact Nat.le_of_eq (by rw[show(4294967296:Nat)=65536^2 from rfl,←Nat.pow_mul])
 exact Bu k hk g g _ so _ sc _ w hr hlen (by omega) (by omega) hb0 hh
theorem same_oth {k:Nat}(hk:1≤k∧k≤8){c:Nat}(hc:c=1∨c=3∨c=4∨c=5)(g:Bool)(fl:Int)(hs:iR k c=true)(hg:g=true→Bk k c=true):SameV k (Dw k c g 0 0 fl) ((c:Int),g,⟨false,0,0⟩,fl):=by
 have hf: ¬(dK k=0∨(c:Int)<1∨5< (c:Int)):=by
  rcases qt hk with h|h|h<;>omega
 have ho:qX k c 0 g 0=0:=by
  unfold qX;rw[if_neg (by rw[hs];decide),if_neg];rintro(h|h|h)
  ·omega
  ·exact h rfl
  ·rw[hg h.1] at h
   exact absurd h.2 (by decide)
 have hE:gI k c g (Dg.dg 4294967296 0) 0=0:=by
  unfold gI;rw[if_neg hf,if_neg (fun h=>h (by decide)),if_neg (by omega),Int.toNat_natCast,Int.toNat_natCast]
  exact ho
 have hS:fq k c g (Dg.dg 4294967296 0) 0=cF (kU k (pI k c||g) (pg k c) (lS k c)):=by
  unfold fq Fv;rw[if_neg hf,if_neg (fun h=>h (by decide)),if_neg (by omega),Int.toNat_natCast,Int.toNat_natCast]
  exact if_pos ho
 unfold Dw;rw[hE,if_pos rfl,hS];exact⟨rfl,rfl,fun so sc w hr=>Bt k c hk hc hs g false so 0 sc 0 w⟩
theorem same_plc {k:Nat}(hk:1≤k∧k≤8)(wy:Int)(P:fz)(h:Rnd k P):SameV k (Dw k (pG k wy P).1 (pG k wy P).2.1 (pG k wy P).2.2.1 (pG k wy P).2.2.2.1 (bits .or .i64 0 (pG k wy P).2.2.2.2)) (plV k wy P):=by
 have hp1:rdN k^dgN k-1≠0:=by
  rcases bO hk with rfl|rfl|rfl|rfl|rfl|rfl|rfl|rfl<;>decide
 have b5:bits .or .i64 0 5=5:=rfl;have b3:bits .or .i64 0 3=3:=rfl;unfold pG plV
 by_cases ho:P.ov=true
 ·simp only[if_pos ho]
  unfold ovV;rw[b5]
  rcases qt hk with hf|hf|hf
  ·have h3: ¬dK k=3:=by omega
   simp only[if_neg h3]
   by_cases hb:aaV wy P.s=true
   ·have hc:dK k=1∧aaV wy P.s=true:=⟨hf,hb⟩
    simp only[if_pos hc];have h3:=(fam_one hk).1 hf;exact same_oth hk (c:=3) (by decide) P.s 5 (by simp[iR,h3]) (fun _=>rfl)
   ·have hc: ¬(dK k=1∧aaV wy P.s=true):=fun c=>hb c.2
    simp only[if_neg hc];exact same_num hk P.s 5 hp1 (EV hk)
  ·have h3: ¬dK k=3:=by omega
   have hc: ¬(dK k=1∧aaV wy P.s=true):=fun c=>by omega
   simp only[if_neg h3,if_neg hc];exact same_num hk P.s 5 hp1 (EV hk)
  ·simp only[if_pos hf]
   have h6:6≤k:=by
    revert hf
    rcases bO hk with rfl|rfl|rfl|rfl|rfl|rfl|rfl|rfl<;>decide
   exact same_oth hk (c:=5) (by decide) false 5 (by simp[iR,h6]) (fun c=>by cases c)
 simp only[if_neg ho]
 by_cases hl:P.un=true∧P.p<lsI k
 ·simp only[if_pos hl]
  rw[b3];exact same_oth hk (c:=1) (by decide) false 3 rfl (fun c=>by cases c)
 simp only[if_neg hl];have hfl:bits .or .i64 0 (if P.ex=true then 0 else if P.un=true then 3 else 1)=(if P.ex=true then 0 else if P.un=true then 3 else 1):=by
  split
  ·rfl
  ·split<;>rfl
 rw[hfl]
 by_cases hd:P.d=0
 ·simp only[if_pos hd]
  rw[hd,h.nil0 hd];have h3:=(fam_one hk).1 (h.plc.nil (by simpa using ho) hd);exact same_oth hk (c:=1) (by decide) P.s _ rfl (fun _=>by simp[Bk];omega)
 ·simp only[if_neg hd]
  exact same_num hk P.s _ hd (h.spot (by simpa using ho) hl hd)
theorem rd_one16 {w:World}{q:Nat}(h:w.cell? ⟨q,0,none⟩=some (yi 1)):Rd w .i64 (.slice (some ⟨q,0,none⟩) 1 1) [1]:=
 ⟨_,1,rfl,Nat.le_refl _,by unfold maxLen;omega,fun _=>⟨q,0,rfl,fun i hi=>by
  obtain rfl:i=0:=by simpa using hi
  exact h⟩⟩
theorem refOfD_any (x:ak)(xo:Option Addr)(xc:Nat)(w:World):
  yC 23 #[ydV x.s (yS xo x.n xc) x.e] w fun z w'=> ∃eo ec,z= .returned (yrV x.s (yS xo x.n xc) (.slice eo 1 ec) x.e)∧Rd w' .i64 (.slice eo 1 ec) [1]∧yB w w':=by
 obtain⟨W,hW,q1,q2,b⟩:=iG w (ydL x.s (yS xo x.n xc) x.e) 35 (yrL false yN yN 0) 58;replace hW:Hid _:=hW
 go_enter func23,ntmps23
 go_upto_region 1 with fail
 rw[hW.out];clear hW;have al:=af W (.cells #[yi 1] 3);have hn:=ah W [yi 1] 3;have hlt:=q2.lt;have q3:=q2.l al;have b3:=aa b al;have hf:=afz (P:=Tryz.prog) q3 b3 (by omega) underlying58 rfl (by kernel_rfl) (.bool x.s) (yS xo x.n xc) (.slice (some ⟨W.heap.size,0,none⟩) 1 1) (yi x.e);have HH:Hid (_∧_∧_):=⟨hf.1,hf.2.2.loc hn (by omega),hf.2.1⟩;obtain⟨c0,c1,c2⟩:=q1.cs3;obtain⟨d0,d1,d2⟩:=(q1.l al).cs3;obtain⟨⟨z0,z1,z2,z3⟩,y0,y1,y2,y3⟩:=afB q3;clear hf q1 q2 q3 b b3 al hn hlt
 go_wp2
 obtain⟨hl,hq,bR⟩:=HH.out;exact bodyPost_ret (br results23 rfl hl) rfl ⟨_,_,rfl,rd_one16 (hq.c 0 rfl),bR⟩
theorem fitted_any (k:Nat)(hk:1≤k∧k≤8)(wy:Int)(hw:1≤wy∧wy≤5)(qs:Bool)(N M:Nat)(E:Int)(no mo:Option Addr)(nc mc:Nat)(w:World)(hN:N≠0)(hM:M≠0)(rN:Rd w .i64 (yS no N nc) (Dg.dg 65536 N))(rM:Rd w .i64 (yS mo M mc) (Dg.dg 65536 M))
  (lN:bitLen N≤100000) (lM:bitLen M≤100000) (e1: -100000≤E) (e2:E≤100000):
  yC 54 #[yi k,yrV qs (yS no N nc) (yS mo M mc) E,yi wy] w (RVF w (plV k wy (cI (rdN k) (dgN k) (lsI k) (gsI k) (decide (k≤3)) qs N M E wy)).1 (plV k wy (cI (rdN k) (dgN k) (lsI k) (gsI k) (decide (k≤3)) qs N M E wy)).2.1 (plV k wy (cI (rdN k) (dgN k) (lsI k) (gsI k) (decide (k≤3)) qs N M E wy)).2.2.1 (plV k wy (cI (rdN k) (dgN k) (lsI k) (gsI k) (decide (k≤3)) qs N M E wy)).2.2.2):=by
 obtain⟨-,-,-,-,-,-,-,-,-,-,-,hg⟩:=eR hk;have key: ∀L:Nat,100000≤16*L→ ∀{x:Nat},bitLen x≤100000→(Dg.dg 65536 x).length≤L:=fun L hL {x} h=>by
  refine Dg.dg_len_le 65536 x L (by omega) ?_;rw[show(65536:Nat)=2^16 from rfl,←Nat.pow_mul]
  exact wZ (Nat.le_trans h hL)
 have hlen: ∀{x:Nat},bitLen x≤100000→(Dg.dg 65536 x).length≤20000:=fun {x} h=>key 20000 (by omega) h
 have hy:iC wy=true:=by unfold iC;simpa using hw
 refine(acs k _ _ _ (rdN k) (dgN k) (lsI k) (gsI k) _ _ wy E _ (decide (k≤3)) _ _ qs N M no mo nc mc (cI (rdN k) (dgN k) (lsI k) (gsI k) (decide (k≤3)) qs N M E wy) _ w (fun w1=>form_any k hk w1) (fun w1 b=>KU _ _ _ _ _ qs no nc mo mc N M E wy w1 hg hy (rN.l b) (rM.l b) (hlen lN) (hlen lM) hN hM e1 e2 (by omega) (by omega)) (fun po pc w1 h=>placed_any k hk wy hw _ (rnd_of hk qs N M E wy hN hM).plc po pc w1 h)).mono (fun z w' h=>h.near)
theorem fitD_any (k:Nat)(hk:1≤k∧k≤8)(wy:Int)(hw:1≤wy∧wy≤5)(x:ak)(xo:Option Addr)(xc:Nat)(w:World)(h0:x.n≠0)(rx:Rd w .i64 (yS xo x.n xc) (Dg.dg 65536 x.n))(lN:bitLen x.n≤100000)(e1: -100000≤x.e)(e2:x.e≤100000):
  yC 19 #[yi k,ydV x.s (yS xo x.n xc) x.e,yi wy] w (RVF w (plV k wy (fY k wy x)).1 (plV k wy (fY k wy x)).2.1 (plV k wy (fY k wy x)).2.2.1 (plV k wy (fY k wy x)).2.2.2):=by
 have hz:(((Dg.dg 65536 x.n).length:Int)==0)=false:=by
  have:(Dg.dg 65536 x.n).length≠0:=fun c=>h0 ((Dg.dg_nil_iff 65536 _ (by omega)).1 (List.length_eq_zero_iff.1 c))
  simpa using this
 exact aeo k _ wy _ _ x _ xo xc w hz (fun w1 b=>refOfD_any x xo xc w1) (fun eo ec w1 b h=>fitted_any k hk wy hw x.s x.n 1 x.e xo eo xc ec w1 h0 (by omega) (rx.l b) h lN (by decide) e1 e2)
def nthV (k:Nat)(fl:Int):Int×Bool×ak×Int:=(AZ (dK k),false,⟨false,0,0⟩,fl)
theorem same_off {k:Nat}(hk:1≤k∧k≤8)(way fl:Int):SameV k (m8 k way (AZ (dK k)) false ⟨false,0,0⟩ fl) (nthV k fl):=by
 unfold m8 nthV;rw[if_neg (show¬AZ (dK k)=2 from fun h=>vN (k:=k) (fl:=0) h)]
 have key: ∀c:Nat,AZ (dK k)=(c:Int)→(c=1∨c=3∨c=4∨c=5)→iR k c=true→SameV k (Dw k (c:Int) false 0 0 fl) ((c:Int),false,⟨false,0,0⟩,fl):=fun c _ hc hs=>same_oth hk hc false fl hs (fun c=>by cases c)
 rcases qt hk with hf|hf|hf
 ·have e:AZ (dK k)=((4:Nat):Int):=by rw[hf];rfl
  rw[e,if_neg (by decide)];exact key 4 e (by decide) (by have:=(fam_one hk).1 hf;simp[iR,this])
 ·have e:AZ (dK k)=((1:Nat):Int):=by rw[hf];rfl
  rw[e,if_pos (by decide)];exact key 1 e (by decide) rfl
 ·have e:AZ (dK k)=((5:Nat):Int):=by rw[hf];rfl
  rw[e,if_neg (by decide)];have h6:6≤k:=by
   revert hf
   rcases bO hk with rfl|rfl|rfl|rfl|rfl|rfl|rfl|rfl<;>decide
  exact key 5 e (by decide) (by simp[iR,h6])
theorem same_inf {k:Nat}(hk:1≤k∧k≤8)(h3:k≤3)(way:Int)(g:Bool)(t:ak)(fl:Int):SameV k (m8 k way 3 g t fl) (3,g,⟨false,0,0⟩,fl):=by
 unfold m8;rw[if_neg (by decide),if_neg (by decide)];exact same_oth hk (c:=3) (by decide) g fl (by simp[iR,h3]) (fun _=>rfl)
theorem same_nil {k:Nat}(hk:1≤k∧k≤8)(way:Int)(g:Bool)(t:ak)(fl:Int):SameV k (m8 k way 1 g t fl) (1,g&&decide (dK k=1),⟨false,0,0⟩,fl):=by
 unfold m8;rw[if_neg (by decide),if_pos rfl];refine same_oth hk (c:=1) (by decide) _ fl rfl (fun h=> ?_)
 have:=(fam_one hk).1 (of_decide_eq_true (Bool.and_eq_true_iff.1 h).2);simp[Bk];omega
theorem same_fit {k:Nat}(hk:1≤k∧k≤8)(way:Int)(g:Bool)(t:ak)(h0:t.n≠0):SameV k (m8 k way 2 g t 0) (plV k way (fY k way t)):=by
 unfold m8;rw[if_pos rfl];exact same_plc hk way _ (rnd_of hk t.s t.n 1 t.e way h0 (by omega))
theorem lost_any (k:Nat)(hk:1≤k∧k≤8)(w:World):yC 51 #[yi k] w (RVF w (AZ (dK k)) false ⟨false,0,0⟩ 16):=
 aen k _ w (fun w1=>refNothing_any k hk w1)
theorem aaY (n c fl:Int)(g:Bool)(t:ak)(so:Option Addr)(sc:Nat)(st:ByteArray)(w:World)
  (HE:yH w 52 #[yi n,yoV c g t.s (yS so t.n sc) t.e] (.string st)):
  yC 16 #[yi n,.string st,yi fl,yi 0,yi 0,yoV c g t.s (yS so t.n sc) t.e,yi fl] w (yR w (.bool true)):=by
 replace HE:Hid _:=HE;obtain⟨W3,hW4,q1,b2⟩:=cA w (yoL c g t.s (yS so t.n sc) t.e) 37;replace hW4:Hid _:=hW4
 go_enter func16,ntmps16
 go_upto_region 1 with fail
 rw[hW4.out];clear hW4;obtain⟨c5,c6,c7,c8,c9⟩:=q1.cs5
 go_wp2_with fail
 refine(HE.out _ b2).mono ?_;rintro zz w10 ⟨rfl,bb11⟩;have b12:=aa b2 bb11;clear q1 b2 bb11 HE c5 c6 c7 c8 c9
 go_wp2
 go_ret
 exact⟨by simp,b12⟩
theorem aal (n c e wt:Int)(g:Bool)(t:ak)(so:Option Addr)(sc:Nat)(w:World)(he:(e==0)=false):
  yC 16 #[yi n,.string ⟨#[]⟩,yi 0,yi e,yi e,yoV c g t.s (yS so t.n sc) t.e,yi wt] w (yR w (.bool true)):=by
 obtain⟨W3,hW4,q1,b2⟩:=cA w (yoL c g t.s (yS so t.n sc) t.e) 37;replace hW4:Hid _:=hW4;clear q1
 go_enter func16,ntmps16
 go_upto_region 1 with fail
 rw[hW4.out];clear hW4
 go_wp2
 go_ret
 exact⟨by simp,b2⟩
theorem way_is {way:Int}:iC way=true↔1≤way∧way≤5:=by
 unfold iC;simp
def RefOf (k:Nat)(wy:Int)(cx cy:Int)(gx gy:Bool)(x y:ak)(F:Nat)(v:Int×Bool×ak×Int):Prop:=
 ∀xo xc yo yc w,Rd w .i64 (yS xo x.n xc) (Dg.dg 65536 x.n)→Rd w .i64 (yS yo y.n yc) (Dg.dg 65536 y.n)→yC F #[yi k,yoV cx gx x.s (yS xo x.n xc) x.e,yoV cy gy y.s (yS yo y.n yc) y.e,yi wy] w (RVF w v.1 v.2.1 v.2.2.1 v.2.2.2)
theorem inf_few {k:Nat}{a:ByteArray}(ha:dF k a=0)(h:bM k a=3):k≤3:=by
 refine Decidable.byContradiction fun h3=> ?_
 revert h
 unfold bM;rw[if_pos ha,Int.toNat_natCast];unfold dh;rw[if_neg h3]
 split
 ·split<;>omega
 ·split
  ·split<;>omega
  ·omega
theorem pat_ok {k:Nat}{r:ByteArray×Int×Int}{v:Int×Bool×ak×Int}(h:SameV k r v)(so:Option Addr)(sc:Nat)(w:World)(hr:Rd w .i64 (yS so v.2.2.1.n sc) (Dg.dg 65536 v.2.2.1.n)):yC 16 #[yi k,.string r.1,yi r.2.1,yi r.2.2,yi 0,yoV v.1 v.2.1 v.2.2.1.s (yS so v.2.2.1.n sc) v.2.2.1.e,yi v.2.2.2] w (yR w (.bool true)):=by
 obtain⟨h1,h2,h3⟩:=h;rw[h1,h2];exact aaY k _ _ _ v.2.2.1 so sc r.1 w (fun w1 b=>h3 so sc w1 (hr.l b))
theorem refDP_same (ea eb E da db ma mb:Int)(sa:Bool)(ao bo:Option Addr)(la lb ac bc:Nat)(X Y Z:Nat)(t:ak)(w:World)(hc:((la:Int)==0)=false∧((lb:Int)==0)=false∧min ea eb=E∨((la:Int)==0)=true∧((lb:Int)==0)=false∧eb=E∨((la:Int)==0)=false∧((lb:Int)==0)=true∧ea=E∨((la:Int)==0)=true∧((lb:Int)==0)=true∧ea=E)(hda:IntKind.i64.wrap (ea-E)=da)(hdb:IntKind.i64.wrap (eb-E)=db)(hma:max 0 da=ma)(hmb:max 0 db=mb)
  (HU: ∀w1,yB w w1→yC 62 #[.slice ao la ac,yi ma] w1 (cG w1 X))
  (HV: ∀w1,yB w w1→yC 62 #[.slice bo lb bc,yi mb] w1 (cG w1 Y))
  (HP: ∀xo xc yo yc w1,yB w w1→Rd w1 .i64 (yS xo X xc) (Dg.dg 65536 X)→Rd w1 .i64 (yS yo Y yc) (Dg.dg 65536 Y)→yC 47 #[yS xo X xc,yS yo Y yc] w1 (cG w1 Z))
  (HB: ∀zo zc w1,yB w w1→Rd w1 .i64 (yS zo Z zc) (Dg.dg 65536 Z)→yC 33 #[ydV sa (yS zo Z zc) E] w1 (Xi w.heap.size w1 t)):
  yC 24 #[ydV sa (.slice ao la ac) ea,ydV sa (.slice bo lb bc) eb] w (di w t):=by
 replace HU:Hid _:=HU;replace HV:Hid _:=HV;replace HP:Hid _:=HP;replace HB:Hid _:=HB;obtain⟨W5,hW6,q1,q2,q3,b4⟩:=lG w (ydL sa (.slice ao la ac) ea) 35 (ydL sa (.slice bo lb bc) eb) 35 (ydL false yN 0) 35;replace hW6:Hid _:=hW6
 go_enter func24,ntmps24
 go_upto_region 1 with fail
 rw[hW6.out];clear hW6;have c7:=q1.c 1 rfl;have c8:=q1.c 2 rfl;have c9:=q2.c 1 rfl;have c10:=q2.c 2 rfl
 rcases hc with⟨hla,hlb,hE⟩| ⟨hla,hlb,hE⟩| ⟨hla,hlb,hE⟩| ⟨hla,hlb,hE⟩
 all_goals try rw[hE] at c8
 all_goals try rw[hE] at c10
 all_goals
  go_upto_region 6 with fail
  clear hE;clear c7 c8 c9 c10;have bW11:yB W5 W5.drew:=(Below.refl _ _).drew;have q12:=q1.l bW11;have q13:=q2.l bW11;have q14:=q3.l bW11;have b15:=aa b4 bW11;clear q1 q2 q3 b4 bW11;refine wp_region_held_drew (S:=fun wq=>au wq w.heap.size 35 (ydL sa (.slice ao la ac) ea)∧au wq (w.heap.size+1) 35 (ydL sa (.slice bo lb bc) eb)) (by kernel_rfl) ⟨q12,q13⟩ (fun hS0=> ?_)
  generalize W5.drew=WD16 at q12 q13 q14 b15 hS0⊢;refine tq 0 (.pointer (some ⟨w.heap.size,1,none⟩)) rfl (fun _ _=>by kernel_rfl) hS0 ?_
  refine tq 1 (.slice ao la ac) rfl (fun _ hw0=>gU 33 (.tmp 25) rfl w.heap.size 1 (by kernel_rfl) _ _ underlying33 rfl (hw0.1.c 1 rfl)) hS0 ?_
  refine tq 2 (.pointer (some ⟨w.heap.size,2,none⟩)) rfl (fun _ _=>by kernel_rfl) hS0 ?_
  refine tq 3 (yi ea) rfl (fun _ hw0=>gU 3 (.tmp 27) rfl w.heap.size 2 (by kernel_rfl) _ _ underlying3 rfl (hw0.1.c 2 rfl)) hS0 ?_
  refine tq 4 (yi E) rfl (fun _ _=>by kernel_rfl) hS0 ?_
  refine tq 5 (yi da) rfl (fun _ _=>by go_simp) hS0 ?_
  refine tq 6 (yi ma) rfl (fun _ _=>by go_simp) hS0 ?_
  refine tq 8 (.pointer (some ⟨w.heap.size+1,1,none⟩)) rfl (fun _ _=>by kernel_rfl) hS0 ?_
  refine tq 9 (.slice bo lb bc) rfl (fun _ hw0=>gU 33 (.tmp 33) rfl (w.heap.size+1) 1 (by kernel_rfl) _ _ underlying33 rfl (hw0.2.c 1 rfl)) hS0 ?_
  refine tq 10 (.pointer (some ⟨w.heap.size+1,2,none⟩)) rfl (fun _ _=>by kernel_rfl) hS0 ?_
  refine tq 11 (yi eb) rfl (fun _ hw0=>gU 3 (.tmp 35) rfl (w.heap.size+1) 2 (by kernel_rfl) _ _ underlying3 rfl (hw0.2.c 2 rfl)) hS0 ?_
  refine tq 12 (yi E) rfl (fun _ _=>by kernel_rfl) hS0 ?_
  refine tq 13 (yi db) rfl (fun _ _=>by go_simp) hS0 ?_
  refine tq 14 (yi mb) rfl (fun _ _=>by go_simp) hS0 ?_
  refine wpAnyH_ready (rs:=[7]) (by kernel_rfl) (by simp) ?_;refine AllReadyH.cons rfl (fun K hK=> ?_) AllReadyH.nil
  go_simp
  refine(HU.out _ b15).mono ?_;rintro zz w17 ⟨v119,rfl,r120,bb18⟩;have q21:=q12.l bb18;have q22:=q13.l bb18;have q23:=q14.l bb18;have b24:=aa b15 bb18;obtain⟨xo,xc,hv⟩:=r120.shape;subst hv;clear q12 q13 q14 b15 bb18 HU;refine hK.out _ _ ⟨q21,q22⟩ (fun hS25=> ?_)
  clear hK K;refine wpAnyH_ready (rs:=[15]) (by kernel_rfl) (by simp) ?_;refine AllReadyH.cons rfl (fun K hK=> ?_) AllReadyH.nil
  go_simp
  refine(HV.out _ b24).mono ?_;rintro zz w26 ⟨v128,rfl,r129,bb27⟩;have q30:=q21.l bb27;have q31:=q22.l bb27;have q32:=q23.l bb27;have r33:=r120.l bb27;have b34:=aa b24 bb27;obtain⟨yo,yc,hv⟩:=r129.shape;subst hv;clear q21 q22 q23 r120 b24 bb27 HV;refine hK.out _ _ ⟨q30,q31⟩ (fun hS35=> ?_)
  clear hK K;refine tq 16 (yS xo X xc) rfl (fun _ _=>by kernel_rfl) hS35 ?_
  refine tq 17 (yS yo Y yc) rfl (fun _ _=>by kernel_rfl) hS35 ?_
  refine wpAnyH_done (by kernel_rfl) ?_ _;clear hS0 hS25 hS35;simp only[Act.put,List.getElem_toArray,List.getElem_cons_succ,List.getElem_cons_zero,List.setIfInBounds_toArray,List.set_cons_zero,List.set_cons_succ];have c36:=q30.c 0 rfl;have c37:=q31.c 0 rfl
  go_upto_region 8 with fail
  clear c36 c37;have bW38:yB w26 w26.drew:=(Below.refl _ _).drew;have q39:=q30.l bW38;have q40:=q32.l bW38;have r41:=r33.l bW38;have r42:=r129.l bW38;have b43:=aa b34 bW38;clear q30 q31 q32 r33 r129 b34 bW38;refine wp_region_held_drew (S:=fun wq=>au wq w.heap.size 35 (ydL sa (.slice ao la ac) ea)) (by kernel_rfl) q39 (fun hS0=> ?_)
  generalize w26.drew=WD44 at q39 q40 r41 r42 b43 hS0⊢;refine tq 0 (.pointer (some ⟨w.heap.size,0,none⟩)) rfl (fun _ _=>by kernel_rfl) hS0 ?_
  refine tq 1 (.bool sa) rfl (fun _ hw0=>gU 4 (.tmp 46) rfl w.heap.size 0 (by kernel_rfl) _ _ underlying4 rfl (hw0.c 0 rfl)) hS0 ?_
  refine tq 2 (yS xo X xc) rfl (fun _ _=>by kernel_rfl) hS0 ?_
  refine tq 3 (yS yo Y yc) rfl (fun _ _=>by kernel_rfl) hS0 ?_
  refine tq 5 (yi E) rfl (fun _ _=>by kernel_rfl) hS0 ?_
  refine wpAnyH_ready (rs:=[4]) (by kernel_rfl) (by simp) ?_;refine AllReadyH.cons rfl (fun K hK=> ?_) AllReadyH.nil
  go_simp
  refine(HP.out _ _ _ _ _ b43 r41 r42).mono ?_;rintro zz w45 ⟨v147,rfl,r148,bb46⟩;have q49:=q39.l bb46;have q50:=q40.l bb46;have r51:=r41.l bb46;have r52:=r42.l bb46;have b53:=aa b43 bb46;obtain⟨zo,zc,hv⟩:=r148.shape;subst hv;clear q39 q40 r41 r42 b43 bb46 HP;refine hK.out _ _ q49 (fun hS54=> ?_)
  clear hK K;refine tq 6 (ydV sa (yS zo Z zc) E) rfl (fun _ _=>by kernel_rfl) hS54 ?_
  refine wpAnyH_ready (rs:=[7]) (by kernel_rfl) (by simp) ?_;refine AllReadyH.cons rfl (fun K hK=> ?_) AllReadyH.nil
  go_simp
  refine(HB.out _ _ _ b53 r148).mono ?_;rintro zz w55 ⟨v157,rfl,r158,bb56,hF⟩;have q59:=q49.l bb56;have q60:=q50.l bb56;have r61:=r51.l bb56;have r62:=r52.l bb56;have r63:=r148.l bb56;have b64:=aa b53 bb56;obtain⟨uo,uc,hv⟩:=r158.shape;subst hv;clear q49 q50 r51 r52 r148 b53 bb56 HB;refine hK.out _ _ q59 (fun hS65=> ?_)
  clear hK K;refine wpAnyH_ready (rs:=[8]) (by kernel_rfl) (by simp) ?_;refine AllReadyH.cons rfl (fun K hK=> ?_) AllReadyH.nil
  have bu:But (w.heap.size+1+1) w55 (w55.setCells (w.heap.size+1+1) 0 (ydL t.s (yS uo t.n uc) t.e)):=de _ _ _ _;have hth:w55.there (w.heap.size+1+1) 0 3:=dD q60;have q66:au (w55.setCells (w.heap.size+1+1) 0 (ydL t.s (yS uo t.n uc) t.e)) (w.heap.size+1+1) 35 (ydL t.s (yS uo t.n uc) t.e):=q60.sets _ rfl;have r67:=bu.rd r61 (cq r61 (Dg.norm_dg _ _ (by omega)) q60 (fun x hx n hn=>by simp at hx;rcases hx with rfl|rfl|rfl<;>simp;all_goals omega))
  have r68:=bu.rd r62 (cq r62 (Dg.norm_dg _ _ (by omega)) q60 (fun x hx n hn=>by simp at hx;rcases hx with rfl|rfl|rfl<;>simp;all_goals omega))
  have r69:=bu.rd r63 (cq r63 (Dg.norm_dg _ _ (by omega)) q60 (fun x hx n hn=>by simp at hx;rcases hx with rfl|rfl|rfl<;>simp;all_goals omega))
  have r70:=bu.rd r158 (cq r158 (Dg.norm_dg _ _ (by omega)) q60 (fun x hx n hn=>by simp at hx;rcases hx with rfl|rfl|rfl<;>simp;all_goals omega))
  have q71:=bu.loc q59 (by omega);have b72:=bu.below b64 (by omega);rw[if_pos (by kernel_rfl)];refine wp_store_mid 35 (.tmp 4) (.tmp 53) rfl (w.heap.size+1+1) 0 (ydA t.s (yS uo t.n uc) t.e) (by kernel_rfl) (by kernel_rfl) hth (by kernel_rfl) (by simp[Value.oneCell']) ?_;refine hK.out _ _ q71 (fun hS73=> ?_)
  clear hK K;clear q60 r61 r62 r63 r158 q59 b64 bu hth;refine wpAnyH_done (by kernel_rfl) ?_ _;clear hS0 hS54 hS65 hS73;change Exit.then _ _ _ _ (World.setCells w55 (w.heap.size+1+1) 0 (ydL t.s (yS uo t.n uc) t.e));generalize World.setCells w55 (w.heap.size+1+1) 0 (ydL t.s (yS uo t.n uc) t.e)=W74 at q71 q66 r67 r68 r69 r70 b72⊢;simp only[Act.put,List.getElem_toArray,List.getElem_cons_succ,List.getElem_cons_zero];have hl:=run_loadVar_mid (P:=Tryz.prog) _ (w.heap.size+1+1) 0 35 (ydL t.s (yS uo t.n uc) t.e) _ q66.range underlying35 rfl (by kernel_rfl)
  go_wp2
  exact bodyPost_ret (br results24 rfl hl) rfl ⟨_,rfl,r70,hF.out,b72⟩
end Go.Proofs.YtpainhklfoaniaaGreatDoor

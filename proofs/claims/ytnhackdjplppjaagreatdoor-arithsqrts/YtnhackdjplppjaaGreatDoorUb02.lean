/-
  Texts laid together: Ra2, Ra3, Ga5, Ra4.
-/
import Derived.Test.YtnhackdjplppjaaGreatDoorUb01
set_option maxRecDepth 100000
set_option maxHeartbeats 3200000
namespace Go.Proofs.YtnhackdjplppjaaGreatDoor
open _root_.Go.Proofs.Tryz
open Go.RowKit
theorem fam_one {k:Nat}(hk:1≤k∧k≤8):dK (k:Int)=1↔k≤3:=by
 rcases bO hk with rfl|rfl|rfl|rfl|rfl|rfl|rfl|rfl<;>decide
structure Rnd (k:Nat) (P:fz):Prop where
 plc:Plc k P
 nil0:P.d=0→P.p=0
 spot:P.ov=false→ ¬(P.un=true∧P.p<lsI k)→P.d≠0→ia (rdN k:Int) (dgN k:Int) (lsI k) (gsI k) (decide (k≤3)) P.d P.p
theorem rnd_of {k:Nat}(hk:1≤k∧k≤8)(s:Bool)(N M:Nat)(E way:Int)(hN:N≠0)(hM:M≠0):Rnd k (cI (rdN k:Int) (dgN k:Int) (lsI k) (gsI k) (decide (k≤3)) s N M E way):=by
 obtain⟨-,-,d1,-,l1,l0,lg,g2,w64,-,ww,hg⟩:=eR hk;have hD:(1:Int)≤(dgN k:Int):=by omega
 have hfk:=fam_one hk;have hrs:=nW (R:=(rdN k:Int)) (D:=(dgN k:Int)) (L:=lsI k) (G:=gsI k) (gr:=decide (k≤3)) (qs:=s) (N:=N) (M:=M) (E:=E) (way:=way) hD lg hN hM;rw[kJ _ s N M E way hD lg hN hM] at hrs⊢;have hwl:=rP (rdN k:Int) (dgN k:Int) (lsI k) (decide (k≤3)) N M E hD hN hM;have hwp:=Vf (rdN k:Int) (dgN k:Int) (lsI k) (decide (k≤3)) N M E hD hN hM;have hds:=uh (rdN k:Int) (dgN k:Int) (lsI k) (decide (k≤3)) N M E hD hN hM (dj (rdN k:Int) (dgN k:Int) (lsI k) (decide (k≤3)) N M E);have hdz:=CD (rdN k:Int) (dgN k:Int) (fM (rdN k:Int) (dgN k:Int) (lsI k) (decide (k≤3)) s N M E way);have hdg:=KL (rdN k:Int) (dgN k:Int) (lsI k) (decide (k≤3)) s N M E way;have hd1:fM (rdN k:Int) (dgN k:Int) (lsI k) (decide (k≤3)) s N M E way≤cH (rdN k:Int) (dgN k:Int) (lsI k) (decide (k≤3)) N M E+1:=by
  unfold fM
  split<;>omega
 have hdn:gF (rdN k:Int) (dgN k:Int) (lsI k) (decide (k≤3)) N M E=0→fM (rdN k:Int) (dgN k:Int) (lsI k) (decide (k≤3)) s N M E way=cH (rdN k:Int) (dgN k:Int) (lsI k) (decide (k≤3)) N M E:=fun h=>by
  unfold fM;rw[if_neg (fun c=>of_decide_eq_false c.1 h)]
 have hcut:(k≤3→lsI k≤dj (rdN k:Int) (dgN k:Int) (lsI k) (decide (k≤3)) N M E)∧(¬k≤3→dj (rdN k:Int) (dgN k:Int) (lsI k) (decide (k≤3)) N M E=aT (rdN k:Int) (dgN k:Int) (dY N M E)):=by
  unfold dj;refine⟨fun h=> ?_,fun h=> ?_⟩
  ·rw[decide_eq_true h,Bool.and_true]
   split
   ·exact Int.le_refl _
   ·rename_i c
    simpa using c
  ·rw[decide_eq_false h,Bool.and_false,if_neg (by decide)]
 have hcP:gD (rdN k:Int) (dgN k:Int) (fM (rdN k:Int) (dgN k:Int) (lsI k) (decide (k≤3)) s N M E way) (dj (rdN k:Int) (dgN k:Int) (lsI k) (decide (k≤3)) N M E)=dj (rdN k:Int) (dgN k:Int) (lsI k) (decide (k≤3)) N M E∨(gD (rdN k:Int) (dgN k:Int) (fM (rdN k:Int) (dgN k:Int) (lsI k) (decide (k≤3)) s N M E way) (dj (rdN k:Int) (dgN k:Int) (lsI k) (decide (k≤3)) N M E)=dj (rdN k:Int) (dgN k:Int) (lsI k) (decide (k≤3)) N M E+1∧io (rdN k:Int) (dgN k:Int) (fM (rdN k:Int) (dgN k:Int) (lsI k) (decide (k≤3)) s N M E way)=2^ (ai (rdN k:Int)*((dgN k:Int)-1).toNat)):=by
  unfold gD io
  split
  ·exact .inr ⟨rfl,rfl⟩
  ·exact .inl rfl
 have hpw:2^ (ai (rdN k:Int)*((dgN k:Int)-1).toNat)<2^ (ai (rdN k:Int)*(dgN k:Int).toNat):=by
  refine Nat.pow_lt_pow_right (by omega) (Nat.mul_lt_mul_of_pos_left ?_ (by omega));omega
 have hcl:io (rdN k:Int) (dgN k:Int) (fM (rdN k:Int) (dgN k:Int) (lsI k) (decide (k≤3)) s N M E way)<2^ (ai (rdN k:Int)*(dgN k:Int).toNat):=by
  unfold io
  split
  ·exact hpw
  ·omega
 have hlen:(Dg.dg 65536 (io (rdN k:Int) (dgN k:Int) (fM (rdN k:Int) (dgN k:Int) (lsI k) (decide (k≤3)) s N M E way))).length≤100000:=by
  refine Nat.le_trans (Dg.dg_len_le 65536 _ 4 (by omega) (Nat.lt_of_lt_of_le hcl ?_)) (by omega);rw[Int.toNat_natCast];exact Nat.le_trans (Nat.pow_le_pow_right (by omega) w64) (by decide)
 generalize fM (rdN k:Int) (dgN k:Int) (lsI k) (decide (k≤3)) s N M E way=dg at*;generalize dj (rdN k:Int) (dgN k:Int) (lsI k) (decide (k≤3)) N M E=ct at*;generalize aT (rdN k:Int) (dgN k:Int) (dY N M E)=pw at*;generalize cH (rdN k:Int) (dgN k:Int) (lsI k) (decide (k≤3)) N M E=wh at*;generalize gF (rdN k:Int) (dgN k:Int) (lsI k) (decide (k≤3)) N M E=lf at*;generalize hcPe:gD (rdN k:Int) (dgN k:Int) dg ct=cp at*;generalize hcDe:io (rdN k:Int) (dgN k:Int) dg=cd at*;have hpos: ¬k≤3→cd≠0:=fun h c=>by
  have:=hwp (hcut.2 h);have:=hdz.1 c;omega
 refine⟨⟨fun hf hl=> ?_,fun hf ho hu he=> ?_,fun ho hd=> ?_,hlen,fun ho=> ?_⟩,fun hd=>if_pos hd,fun ho hnl hd=> ?_⟩
 ·simp only at hl
  have h3:=hfk.1 hf;have:=hcut.1 h3
  exfalso
  split at hl<;>omega
 ·simp only at ho hu he⊢
  have h3: ¬k≤3:=fun c=>hf (hfk.2 c)
  have e1:=hdn (of_decide_eq_true he);have e2:=hcut.2 h3;have e3:=of_decide_eq_true hu;rw[if_neg (hpos h3)];rw[e1,hds.2] at hcPe;omega
 ·exact hfk.2 (Decidable.byContradiction fun h3=>hpos h3 hd)
 ·simp only at ho⊢
  have hG:=of_decide_eq_false ho
  by_cases h3:k≤3
  ·have:=hcut.1 h3
   right
   split<;>omega
  ·rw[if_neg (hpos h3)]
   have e2:=hcut.2 h3
   by_cases hl:cp<lsI k
   ·left
    exact⟨decide_eq_true (by omega),hl⟩
   ·right
    omega
 ·simp only at ho hnl hd⊢
  rw[if_neg hd] at hnl⊢
  by_cases h3:k≤3
  ·have:=hrs ho (.inr (decide_eq_true h3))
   rw[if_neg hd] at this;exact this
  ·by_cases hu:pw<lsI k
   ·have e2:=hcut.2 h3
    have hl: ¬cp<lsI k:=fun c=>hnl ⟨decide_eq_true hu,c⟩
    have hG:=of_decide_eq_false ho;obtain⟨c1,c2⟩:=hcP.resolve_left (by omega);exact .inr ⟨hd,by omega,by omega,hcl,.inl (by omega)⟩
   ·have:=hrs ho (.inl (decide_eq_false hu))
    rw[if_neg hd] at this;exact this
def SameV (k:Nat)(r:ByteArray×Int×Int)(v:Int×Bool×ak×Int):Prop:=
 r.2.2=0∧r.2.1=v.2.2.2∧ ∀so sc w,Rd w .i64 (.slice so (Dg.dg 65536 v.2.2.1.n).length sc) (Dg.dg 65536 v.2.2.1.n)→yC 61 #[yi (k:Int),yoV v.1 v.2.1 v.2.2.1.s (.slice so (Dg.dg 65536 v.2.2.1.n).length sc) v.2.2.1.e] w (yR w (.string r.1))
theorem same_num {k:Nat}(hk:1≤k∧k≤8)(g:Bool){m:Nat}{p:Int}(fl:Int)(hm:m≠0)(hs:ia (rdN k:Int) (dgN k:Int) (lsI k) (gsI k) (decide (k≤3)) m p):SameV k (Dw k 2 g m p fl) (2,g,bare ⟨g,m,(ai (rdN k:Int):Int)*p⟩,fl):=by
 obtain⟨-,-,d1,-,-,-,lg,-,w64,-,-,hg⟩:=eR hk;obtain⟨l15,p1,p2,w1',w2',t480⟩:=qj hg hs;have hh:=mI (s:=g) hg hs;have hc:chk (Dg.dg 4294967296 m)=0:=pJ (Dg.norm_dg _ _ (by omega)) (by omega);have hl0:(Dg.dg 4294967296 m).length≠0:=fun c=>hm ((Dg.dg_nil_iff 4294967296 _ (by omega)).1 (List.length_eq_zero_iff.1 c))
 have hsh:=Af (s:=g) hg hs;have hb0:(bare ⟨g,m,(ai (rdN k:Int):Int)*p⟩).n≠0:=fun c=>hm ((fI _).1 c)
 have hbs:(bare ⟨g,m,(ai (rdN k:Int):Int)*p⟩).s=g:=by unfold bare;rw[if_neg hm]
 have hE:enE k g (Dg.dg 4294967296 m) p=0:=by
  rw[mY hk hc hl0 (by omega),Dg.vl_dg _ _ (by omega),jK _ _ lg];rw[nN _ _ lg] at hh;rw[hh,if_pos rfl]
 have hS:fq (k:Int) 2 g (Dg.dg 4294967296 m) p=cF (kU k g (heE (rdN k:Int) (lsI k) (gW k) (plT k g (bare ⟨g,m,(ai (rdN k:Int):Int)*p⟩).n (bare ⟨g,m,(ai (rdN k:Int):Int)*p⟩).e)) (plT k g (bare ⟨g,m,(ai (rdN k:Int):Int)*p⟩).n (bare ⟨g,m,(ai (rdN k:Int):Int)*p⟩).e).d):=by
  have hN:enN k g (Dg.dg 4294967296 m) p=(bare ⟨g,m,(ai (rdN k:Int):Int)*p⟩,0):=hsh;have hps:(plT k g (bare ⟨g,m,(ai (rdN k:Int):Int)*p⟩).n (bare ⟨g,m,(ai (rdN k:Int):Int)*p⟩).e).s=g:=(oj (s:=g) (way:=3) (by omega) lg hb0 hh).1;rw[(xH hk hc).2];unfold enS;rw[if_pos hE,hN];simp only;rw[hbs,hps]
 unfold Dw;rw[(xH hk hc).1,hE,if_pos rfl,hS];refine⟨rfl,rfl,fun so sc w hr=> ?_⟩
 simp only at hr⊢;have hbn:=kR ⟨g,m,(ai (rdN k:Int):Int)*p⟩;obtain⟨b1,b2,b3⟩:=gN (t:=⟨g,m,(ai (rdN k:Int):Int)*p⟩) hm;simp only at b2 hbn;have hlen:(Dg.dg 65536 (bare ⟨g,m,(ai (rdN k:Int):Int)*p⟩).n).length≤20000:=by
  have hlt:m<4294967296^15:=by
   have:=Dg.vl_lt 4294967296 _ (Dg.small_dg 4294967296 m (by omega));rw[Dg.vl_dg _ _ (by omega)] at this;exact Nat.lt_of_lt_of_le this (Nat.pow_le_pow_right (by omega) l15)
  refine Nat.le_trans (Dg.dg_len_le 65536 _ 30 (by omega) (Nat.lt_of_le_of_lt hbn (Nat.lt_of_lt_of_le hlt ?_))) (by omega);exact Nat.le_of_eq (by rw[show(4294967296:Nat)=65536^2 from rfl,←Nat.pow_mul])
 exact Bu k hk g g _ so _ sc _ w hr hlen (by omega) (by omega) hb0 hh
theorem same_oth {k:Nat}(hk:1≤k∧k≤8){c:Nat}(hc:c=1∨c=3∨c=4∨c=5)(g:Bool)(fl:Int)(hs:iR k c=true)(hg:g=true→Bk k c=true):SameV k (Dw k (c:Int) g 0 0 fl) ((c:Int),g,⟨false,0,0⟩,fl):=by
 have hf: ¬(dK (k:Int)=0∨(c:Int)<1∨5< (c:Int)):=by
  rcases qt hk with h|h|h<;>omega
 have ho:qX k c 0 g 0=0:=by
  unfold qX;rw[if_neg (by rw[hs];decide),if_neg];rintro(h|h|h)
  ·omega
  ·exact h rfl
  ·rw[hg h.1] at h
   exact absurd h.2 (by decide)
 have hE:gI (k:Int) (c:Int) g (Dg.dg 4294967296 0) 0=0:=by
  unfold gI;rw[if_neg hf,if_neg (fun h=>h (by decide)),if_neg (by omega),Int.toNat_natCast,Int.toNat_natCast]
  exact ho
 have hS:fq (k:Int) (c:Int) g (Dg.dg 4294967296 0) 0=cF (kU k (pI k c||g) (pg k c) (lS k c)):=by
  unfold fq Fv;rw[if_neg hf,if_neg (fun h=>h (by decide)),if_neg (by omega),Int.toNat_natCast,Int.toNat_natCast]
  exact if_pos ho
 unfold Dw;rw[hE,if_pos rfl,hS];exact⟨rfl,rfl,fun so sc w hr=>Bt k c hk hc hs g false so 0 sc 0 w⟩
theorem same_plc {k:Nat}(hk:1≤k∧k≤8)(wy:Int)(P:fz)(h:Rnd k P):SameV k (Dw k (pG k wy P).1 (pG k wy P).2.1 (pG k wy P).2.2.1 (pG k wy P).2.2.2.1 (bits .or .i64 0 (pG k wy P).2.2.2.2)) (plV k wy P):=by
 have hp1:rdN k^dgN k-1≠0:=by
  rcases bO hk with rfl|rfl|rfl|rfl|rfl|rfl|rfl|rfl<;>decide
 have b5:bits .or .i64 0 5=5:=rfl;have b3:bits .or .i64 0 3=3:=rfl;unfold pG plV
 by_cases ho:P.ov=true
 ·simp only[if_pos ho]
  unfold ovV;rw[b5]
  rcases qt hk with hf|hf|hf
  ·have h3: ¬dK (k:Int)=3:=by omega
   simp only[if_neg h3]
   by_cases hb:aaV wy P.s=true
   ·have hc:dK (k:Int)=1∧aaV wy P.s=true:=⟨hf,hb⟩
    simp only[if_pos hc];have h3:=(fam_one hk).1 hf;exact same_oth hk (c:=3) (by decide) P.s 5 (by simp[iR,h3]) (fun _=>rfl)
   ·have hc: ¬(dK (k:Int)=1∧aaV wy P.s=true):=fun c=>hb c.2
    simp only[if_neg hc];exact same_num hk P.s 5 hp1 (EV hk)
  ·have h3: ¬dK (k:Int)=3:=by omega
   have hc: ¬(dK (k:Int)=1∧aaV wy P.s=true):=fun c=>by omega
   simp only[if_neg h3,if_neg hc];exact same_num hk P.s 5 hp1 (EV hk)
  ·simp only[if_pos hf]
   have h6:6≤k:=by
    revert hf
    rcases bO hk with rfl|rfl|rfl|rfl|rfl|rfl|rfl|rfl<;>decide
   exact same_oth hk (c:=5) (by decide) false 5 (by simp[iR,h6]) (fun c=>by cases c)
 simp only[if_neg ho]
 by_cases hl:P.un=true∧P.p<lsI k
 ·simp only[if_pos hl]
  rw[b3];exact same_oth hk (c:=1) (by decide) false 3 rfl (fun c=>by cases c)
 simp only[if_neg hl];have hfl:bits .or .i64 0 (if P.ex=true then 0 else if P.un=true then 3 else 1)=(if P.ex=true then 0 else if P.un=true then 3 else 1):=by
  split
  ·rfl
  ·split<;>rfl
 rw[hfl]
 by_cases hd:P.d=0
 ·simp only[if_pos hd]
  rw[hd,h.nil0 hd];have h3:=(fam_one hk).1 (h.plc.nil (by simpa using ho) hd);exact same_oth hk (c:=1) (by decide) P.s _ rfl (fun _=>by simp[Bk];omega)
 ·simp only[if_neg hd]
  exact same_num hk P.s _ hd (h.spot (by simpa using ho) hl hd)
theorem rd_one16 {w:World}{q:Nat}(h:w.cell? ⟨q,0,none⟩=some (yi 1)):Rd w .i64 (.slice (some ⟨q,0,none⟩) 1 1) [1]:=
 ⟨_,1,rfl,Nat.le_refl _,by unfold maxLen;omega,fun _=>⟨q,0,rfl,fun i hi=>by
  obtain rfl:i=0:=by simpa using hi
  exact h⟩⟩
theorem refOfD_any (x:ak)(xo:Option Addr)(xc:Nat)(w:World):
  yC 127 #[yMV x xo xc] w fun z w'=> ∃eo ec,z= .returned (yrV x.s (.slice xo (Dg.dg 65536 x.n).length xc) (.slice eo 1 ec) x.e)∧Rd w' .i64 (.slice eo 1 ec) [1]∧yB w w':=by
 obtain⟨W,hW,q1,q2,b⟩:=iG w (yML x xo xc) 30 (yrL false (.slice none 0 0) (.slice none 0 0) 0) 66;replace hW:Hid _:=hW
 go_enter func127,ntmps127
 go_upto_region 1 with fail
 rw[hW.out];clear hW;have al:=af W (.cells #[yi 1] 3);have hn:=ah W [yi 1] 3;have hlt:=q2.lt;have q3:=q2.l al;have b3:=aa b al;have hf:=afz (P:=Tryz.prog) q3 b3 (by omega) underlying66 rfl (by kernel_rfl) (.bool x.s) (.slice xo (Dg.dg 65536 x.n).length xc) (.slice (some ⟨W.heap.size,0,none⟩) 1 1) (yi x.e);have HH:Hid (_∧_∧_):=⟨hf.1,hf.2.2.loc hn (by omega),hf.2.1⟩;obtain⟨c0,c1,c2⟩:=q1.cs3;obtain⟨d0,d1,d2⟩:=(q1.l al).cs3;obtain⟨⟨z0,z1,z2,z3⟩,y0,y1,y2,y3⟩:=afB q3;clear hf q1 q2 q3 b b3 al hn hlt
 go_wp2
 obtain⟨hl,hq,bR⟩:=HH.out;exact bodyPost_ret (br results127 rfl hl) rfl ⟨_,_,rfl,rd_one16 (hq.c 0 rfl),bR⟩
theorem round_bare {R D L G:Int}{gr:Bool}{way:Int}(t:ak)(h0:t.n≠0)(hD:1≤D)(hw:ai R*D.toNat≤64)(s:Bool):
  cI R D L G gr s (bare t).n 1 (bare t).e way=cI R D L G gr s t.n 1 t.e way:=by
 obtain⟨b1,b2,-⟩:=gN h0;obtain⟨m,hm⟩:=fO h0;have hn:(bare t).n=2*m+1:=by
  unfold bare;rw[if_neg h0];exact lI hm
 refine AC b1 (by omega) h0 (by omega) hD hw (J:=dY (bare t).n 1 (bare t).e-64) (aep ((max (-t.e) 0).toNat) (by omega) (by omega) (by omega) (by omega) ?_ _) (by omega);rw[hn,b2,Nat.mul_one,Nat.mul_one,show(t.e+(tz t.n:Int)+((max (-t.e) 0).toNat:Int)).toNat=tz t.n+(t.e+((max (-t.e) 0).toNat:Int)).toNat by omega,Nat.pow_add]
 generalize(t.e+((max (-t.e) 0).toNat:Int)).toNat=q at*
 conv=>rhs;rw[hm]
 rw[←Nat.mul_assoc,Nat.mul_comm (2*m+1)]
theorem fitted_any (k:Nat)(hk:1≤k∧k≤8)(wy:Int)(hw:1≤wy∧wy≤5)(qs:Bool)(N M:Nat)(E:Int)(no mo:Option Addr)(nc mc:Nat)(w:World)(hN:N≠0)(hM:M≠0)(rN:Rd w .i64 (.slice no (Dg.dg 65536 N).length nc) (Dg.dg 65536 N))(rM:Rd w .i64 (.slice mo (Dg.dg 65536 M).length mc) (Dg.dg 65536 M))
  (lN:bitLen N≤40000) (lM:bitLen M≤40000) (e1: -100000≤E) (e2:E≤100000):
  yC 39 #[yi (k:Int),yrV qs (.slice no (Dg.dg 65536 N).length nc) (.slice mo (Dg.dg 65536 M).length mc) E,yi wy] w (RVF w (plV k wy (cI (rdN k:Int) (dgN k:Int) (lsI k) (gsI k) (decide (k≤3)) qs N M E wy)).1 (plV k wy (cI (rdN k:Int) (dgN k:Int) (lsI k) (gsI k) (decide (k≤3)) qs N M E wy)).2.1 (plV k wy (cI (rdN k:Int) (dgN k:Int) (lsI k) (gsI k) (decide (k≤3)) qs N M E wy)).2.2.1 (plV k wy (cI (rdN k:Int) (dgN k:Int) (lsI k) (gsI k) (decide (k≤3)) qs N M E wy)).2.2.2):=by
 obtain⟨-,-,-,-,-,-,-,-,-,-,-,hg⟩:=eR hk;have key: ∀L:Nat,40000≤16*L→ ∀{x:Nat},bitLen x≤40000→(Dg.dg 65536 x).length≤L:=fun L hL {x} h=>by
  refine Dg.dg_len_le 65536 x L (by omega) ?_;rw[show(65536:Nat)=2^16 from rfl,←Nat.pow_mul]
  exact wZ (Nat.le_trans h hL)
 have hlen: ∀{x:Nat},bitLen x≤40000→(Dg.dg 65536 x).length≤20000:=fun {x} h=>key 20000 (by omega) h
 have hy:iC wy=true:=by unfold iC;simpa using hw
 refine(acs (k:Int) _ _ _ (rdN k:Int) (dgN k:Int) (lsI k) (gsI k) _ _ wy E _ (decide (k≤3)) _ _ qs N M no mo nc mc (cI (rdN k:Int) (dgN k:Int) (lsI k) (gsI k) (decide (k≤3)) qs N M E wy) _ w (fun w1=>form_any k hk w1) (fun w1 b=>KU _ _ _ _ _ qs no nc mo mc N M E wy w1 hg hy (rN.l b) (rM.l b) (hlen lN) (hlen lM) hN hM e1 e2 (by omega) (by omega)) (fun po pc w1 h=>placed_any k hk wy hw _ (rnd_of hk qs N M E wy hN hM).plc po pc w1 h)).mono (fun z w' h=>h.near)
theorem fitD_any (k:Nat)(hk:1≤k∧k≤8)(wy:Int)(hw:1≤wy∧wy≤5)(x:ak)(xo:Option Addr)(xc:Nat)(w:World)(h0:x.n≠0)(rx:Rd w .i64 (.slice xo (Dg.dg 65536 x.n).length xc) (Dg.dg 65536 x.n))(lN:bitLen x.n≤40000)(e1: -100000≤x.e)(e2:x.e≤100000):
  yC 66 #[yi (k:Int),yMV x xo xc,yi wy] w (RVF w (plV k wy (fY k wy x)).1 (plV k wy (fY k wy x)).2.1 (plV k wy (fY k wy x)).2.2.1 (plV k wy (fY k wy x)).2.2.2):=by
 have hz:(((Dg.dg 65536 x.n).length:Int)==0)=false:=by
  have:(Dg.dg 65536 x.n).length≠0:=fun c=>h0 ((Dg.dg_nil_iff 65536 _ (by omega)).1 (List.length_eq_zero_iff.1 c))
  simpa using this
 exact aeo (k:Int) _ wy _ _ x _ xo xc w hz (fun w1 b=>refOfD_any x xo xc w1) (fun eo ec w1 b h=>fitted_any k hk wy hw x.s x.n 1 x.e xo eo xc ec w1 h0 (by omega) (rx.l b) h lN (by decide) e1 e2)
def nthV (k:Nat)(fl:Int):Int×Bool×ak×Int:=(AZ (dK (k:Int)),false,⟨false,0,0⟩,fl)
theorem same_off {k:Nat}(hk:1≤k∧k≤8)(way fl:Int):SameV k (m8 k way (AZ (dK (k:Int))) false ⟨false,0,0⟩ fl) (nthV k fl):=by
 unfold m8 nthV;rw[if_neg (show¬AZ (dK (k:Int))=2 from fun h=>vN (k:=k) (fl:=0) h)]
 have key: ∀c:Nat,AZ (dK (k:Int))=(c:Int)→(c=1∨c=3∨c=4∨c=5)→iR k c=true→SameV k (Dw k (c:Int) false 0 0 fl) ((c:Int),false,⟨false,0,0⟩,fl):=fun c _ hc hs=>same_oth hk hc false fl hs (fun c=>by cases c)
 rcases qt hk with hf|hf|hf
 ·have e:AZ (dK (k:Int))=((4:Nat):Int):=by rw[hf];rfl
  rw[e,if_neg (by decide)];exact key 4 e (by decide) (by have:=(fam_one hk).1 hf;simp[iR,this])
 ·have e:AZ (dK (k:Int))=((1:Nat):Int):=by rw[hf];rfl
  rw[e,if_pos (by decide)];exact key 1 e (by decide) rfl
 ·have e:AZ (dK (k:Int))=((5:Nat):Int):=by rw[hf];rfl
  rw[e,if_neg (by decide)];have h6:6≤k:=by
   revert hf
   rcases bO hk with rfl|rfl|rfl|rfl|rfl|rfl|rfl|rfl<;>decide
  exact key 5 e (by decide) (by simp[iR,h6])
theorem same_inf {k:Nat}(hk:1≤k∧k≤8)(h3:k≤3)(way:Int)(g:Bool)(t:ak)(fl:Int):SameV k (m8 k way 3 g t fl) (3,g,⟨false,0,0⟩,fl):=by
 unfold m8;rw[if_neg (by decide),if_neg (by decide)];exact same_oth hk (c:=3) (by decide) g fl (by simp[iR,h3]) (fun _=>rfl)
theorem same_nil {k:Nat}(hk:1≤k∧k≤8)(way:Int)(g:Bool)(t:ak)(fl:Int):SameV k (m8 k way 1 g t fl) (1,g&&decide (dK (k:Int)=1),⟨false,0,0⟩,fl):=by
 unfold m8;rw[if_neg (by decide),if_pos rfl];refine same_oth hk (c:=1) (by decide) _ fl rfl (fun h=> ?_)
 have:=(fam_one hk).1 (of_decide_eq_true (Bool.and_eq_true_iff.1 h).2);simp[Bk];omega
theorem same_fit {k:Nat}(hk:1≤k∧k≤8)(way:Int)(g:Bool)(t:ak)(h0:t.n≠0):SameV k (m8 k way 2 g t 0) (plV k way (fY k way t)):=by
 unfold m8;rw[if_pos rfl];exact same_plc hk way _ (rnd_of hk t.s t.n 1 t.e way h0 (by omega))
theorem lost_any (k:Nat)(hk:1≤k∧k≤8)(w:World):yC 59 #[yi (k:Int)] w (RVF w (AZ (dK (k:Int))) false ⟨false,0,0⟩ 16):=
 aen (k:Int) _ w (fun w1=>refNothing_any k hk w1)
theorem off_row (k:Nat)(hk:1≤k∧k≤8)(cl:List Int)(pb:Nat)(w:World)(hm:cl.length≤3)(hc: ∀(i:Nat) c,cl[i]? =some c→w.cell? ⟨pb,i*5,none⟩=some (yi c)):
  ((∀c∈cl,c≤3)→yC 58 #[yi (k:Int),.slice (some ⟨pb,0,none⟩) cl.length cl.length] w (yR w (.tuple #[yoV 0 false false (.slice none 0 0) 0,yi 0,.bool false])))∧
  ((∃j c,0≤j∧cl[j]? =some c∧4≤c)→yC 58 #[yi (k:Int),.slice (some ⟨pb,0,none⟩) cl.length cl.length] w (yR w (.tuple #[yoV (AZ (dK (k:Int))) false false (.slice none 0 0) 0,yi (if dK (k:Int)=3 then 16 else 0),.bool true]))):=by
 have HF:=fun w1=>form_any k hk w1
 have HN:=fun w1=>refNothing_any k hk w1
 refine⟨fun h=>aey _ _ _ _ _ _ _ _ _ _ _ cl pb w hm hc h HF,fun h=> ?_⟩
 by_cases hf:dK (k:Int)=3
 ·rw[if_pos hf]
  rw[hf] at HF;exact aez _ _ _ _ _ _ _ _ _ _ _ cl pb w hm hc h HF HN
 ·rw[if_neg hf]
  exact aff _ _ _ _ _ _ _ _ _ _ _ _ cl pb w hm hc (by simpa using hf) h HF HN
theorem aal (n c e wt:Int)(g:Bool)(t:ak)(so:Option Addr)(sc:Nat)(w:World)(he:(e==0)=false):
  yC 21 #[yi n,.string ⟨#[]⟩,yi 0,yi e,yi e,yEV c g t so sc,yi wt] w (yR w (.bool true)):=by
 obtain⟨W3,hW4,q1,b2⟩:=cA w (yEL c g t so sc) 32;replace hW4:Hid _:=hW4;clear q1
 go_enter func21,ntmps21
 go_upto_region 1 with fail
 rw[hW4.out];clear hW4
 go_wp2
 go_ret
 exact⟨by simp,b2⟩
theorem way_is {way:Int}:iC way=true↔1≤way∧way≤5:=by
 unfold iC;simp
theorem rec_wrong {n way:Int}{ps:List ByteArray}(f:Int×Bool×ak×Int)(h:CK n way ps≠0):jV n way ps f=(⟨#[]⟩,0,CK n way ps):=by
 unfold CK at h⊢;unfold jV
 by_cases hf:dK n=0
 ·rw[if_pos hf,if_pos hf]
 rw[if_neg hf] at h⊢;rw[if_neg hf]
 by_cases he:fT n ps=0
 ·rw[if_pos he] at h⊢
  rw[if_neg (fun c=>c he)]
  cases hw:iC way
  ·rw[if_pos (by
    have: ¬(1≤way∧way≤5):=fun c=>by rw[way_is.2 c] at hw;cases hw
    omega)]
   rfl
  ·rw[hw] at h
   exact absurd rfl h
 ·rw[if_neg he,if_pos he]
theorem opn_right {n way:Int}{ps:List ByteArray}(h:CK n way ps=0): ∃k:Nat,(1≤k∧k≤8)∧n=(k:Int)∧dK n≠0∧fT n ps=0∧1≤way∧way≤5:=by
 unfold CK at h
 by_cases hf:dK n=0
 ·rw[if_pos hf] at h
  exact absurd h (by decide)
 rw[if_neg hf] at h;obtain⟨k1,k2,k3⟩:=fF hf;refine⟨n.toNat,⟨k1,k2⟩,k3.symm,hf, ?_⟩
 by_cases he:fT n ps=0
 ·rw[if_pos he] at h
  cases hw:iC way
  ·rw[hw] at h
   exact absurd h (by decide)
  ·exact⟨he,way_is.1 hw⟩
 ·rw[if_neg he] at h
  exact absurd h he
theorem rec_right {k:Nat}{way:Int}{ps:List ByteArray}(f:Int×Bool×ak×Int)(hf:dK (k:Int)≠0)(he:fT (k:Int) ps=0)(hw:1≤way∧way≤5):jV (k:Int) way ps f=if ps.any (dO (k:Int))=true then m8 k way (AZ (dK (k:Int))) false ⟨false,0,0⟩ (if dK (k:Int)=1 then 0 else 16) else m8 k way f.1 f.2.1 f.2.2.1 f.2.2.2:=by
 unfold jV;rw[if_neg hf,if_neg (by omega),if_neg (by omega),Int.toNat_natCast]
theorem open_err {n way:Int}{ps:List ByteArray}(h:CK n way ps≠0)(hm:ps.length≤3)(pb:Nat)(w:World)(hl:au w pb 9 (ps.map Value.string)):yC 18 #[yi n,yi way,.slice (some ⟨pb,0,none⟩) ps.length ps.length] w (yR w (.tuple #[.slice none 0 0,yi (CK n way ps)])):=
 (Qc n way ps pb w hl hm).mono (fun z w' h2=>by
  rcases h2 with⟨e,-⟩| ⟨-,e,b⟩
  ·exact absurd e h
  ·exact⟨e,b⟩)
theorem open_ok {n way:Int}{ps:List ByteArray}(h:CK n way ps=0)(hm:ps.length≤3)(h0:ps≠[])(pb:Nat)(w:World)(hl:au w pb 9 (ps.map Value.string)):yC 18 #[yi n,yi way,.slice (some ⟨pb,0,none⟩) ps.length ps.length] w fun z w'=> ∃gb cap,z= .returned (.tuple #[.slice (some ⟨gb,0,none⟩) ps.length cap,yi 0])∧ab5 w' n ps gb cap∧yB w w':=
 (Qc n way ps pb w hl hm).mono (fun z w' h2=>by
  rcases h2 with⟨-,v,cs,e,ho,hat,b⟩| ⟨e,-⟩
  ·obtain⟨g,cap,rfl,hv⟩:=ab6 h0 ho hat
   exact⟨g,cap,e,hv,b⟩
  ·exact absurd h e)
theorem hex_num {k:Nat}(hk:1≤k∧k≤8)(hf:dK (k:Int)=2){a:ByteArray}(ha:dF (k:Int) a=0):bM (k:Int) a≤2:=by
 have h45: ¬k≤3∧k≤5:=by
  revert hf
  rcases bO hk with rfl|rfl|rfl|rfl|rfl|rfl|rfl|rfl<;>decide
 unfold bM;rw[if_pos ha,Int.toNat_natCast];unfold dh;rw[if_neg h45.1,if_pos h45.2]
 split<;>omega
theorem inf_few {k:Nat}{a:ByteArray}(ha:dF (k:Int) a=0)(h:bM (k:Int) a=3):k≤3:=by
 refine Decidable.byContradiction fun h3=> ?_
 revert h
 unfold bM;rw[if_pos ha,Int.toNat_natCast];unfold dh;rw[if_neg h3]
 split
 ·split<;>omega
 ·split
  ·split<;>omega
  ·omega
theorem pat_ok {k:Nat}{r:ByteArray×Int×Int}{v:Int×Bool×ak×Int}(h:SameV k r v)(so:Option Addr)(sc:Nat)(w:World)(hr:Rd w .i64 (.slice so (Dg.dg 65536 v.2.2.1.n).length sc) (Dg.dg 65536 v.2.2.1.n)):yC 21 #[yi (k:Int),.string r.1,yi r.2.1,yi r.2.2,yi 0,yoV v.1 v.2.1 v.2.2.1.s (.slice so (Dg.dg 65536 v.2.2.1.n).length sc) v.2.2.1.e,yi v.2.2.2] w (yR w (.bool true)):=by
 obtain⟨h1,h2,h3⟩:=h;rw[h1,h2];exact aaY (k:Int) _ _ _ v.2.2.1 so sc r.1 w (fun w1 b=>h3 so sc w1 (hr.l b))
end Go.Proofs.YtnhackdjplppjaaGreatDoor

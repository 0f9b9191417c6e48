/-
  Texts laid together: Oq5, Pa5, Pa6, Ra2, Ga1, Gc1.
-/
import Derived.Test.YtbdokgamhinajaaGreatDoorSm38
set_option maxRecDepth 100000
set_option maxHeartbeats 6400000
namespace Go.Proofs.YtbdokgamhinajaaGreatDoor
open _root_.Go.Proofs.Tryz
open Go.RowKit
theorem eU {n:Int}: ∀{ps:List ByteArray},fT n ps=0→ ∀p∈ps,dF n p=0
 | [],_,p,hp=>by simp at hp
 |q::ps,h,p,hp=>by
  unfold fT at h
  by_cases c:dF n q=0
  ·rw[if_pos c] at h
   rcases List.mem_cons.1 hp with rfl|h2
   ·exact c
   ·exact eU h p h2
  ·rw[if_neg c] at h
   exact absurd h c
theorem Qc (n way:Int)(ps:List ByteArray)(pb:Nat)(w:World)(hps:au w pb 9 (ps.map Value.string))(hm:ps.length≤3):
  yC 9 #[yi n,yi way,.slice (some ⟨pb,0,none⟩) ps.length ps.length] w (Ri w n ps (CK n way ps)):=by
 by_cases hf:dK n=0
 ·exact Mz n way _ _ _ _ _ _ _ _ _ false (iC way) ps pb w hps hm (by simpa using hf) rfl (fun w1=>oT n w1 hf) (fun p w1=>xu n p w1) (fun p w1 h=>mW n p w1 h) (fun w1=>qi way w1)
 ·obtain⟨h1,h2,h3⟩:=fF hf
  obtain⟨k,rfl⟩: ∃k:Nat,n=(k:Int):=⟨n.toNat,h3.symm⟩;rw[Int.toNat_natCast] at h1 h2;exact Mz (k:Int) way _ _ _ _ _ _ _ _ _ true (iC way) ps pb w hps hm (by simpa using hf) rfl (fun w1=>sU k ⟨h1,h2⟩ w1) (fun p w1=>xu _ p w1) (fun p w1 h=>mW _ p w1 h) (fun w1=>qi way w1)
theorem acu {k:Nat}(hk:1≤k∧k≤8){p:ByteArray}(h:dF k p=0):
  opT k p=rfT k p∧dz k p=rfG k p∧bM k p=dh k (aZ k p) (aR k p) (aU k p)∧rfT k p=nxT k p:=by
 unfold opT rfT dz rfG bM nxT;rw[if_pos h,if_pos h,if_pos h,Int.toNat_natCast,Nu hk];exact⟨rfl,rfl,rfl,rfl⟩
theorem zl {n:Int}{p:ByteArray}(h:dF n p=0):1≤bM n p∧bM n p≤5:=by
 unfold bM;rw[if_pos h];have:=DV n.toNat (aZ n.toNat p) (aR n.toNat p) (aU n.toNat p);omega
theorem Jz {k:Nat}{wy cx cy:Int}{gx gy:Bool}{x y:ak}(h:cx=3∧cy=3∧gx≠gy):vY k wy cx gx x cy gy y=noV k 16:=if_pos h
theorem JA {k:Nat}{wy cx cy:Int}{gx gy:Bool}{x y:ak}(h1:cx=3)(h: ¬(cy=3∧gx≠gy)):vY k wy cx gx x cy gy y=(3,gx,x,0):=by
 unfold vY;rw[if_neg (show¬(cx=3∧cy=3∧gx≠gy) from fun c=>h c.2),if_pos h1]
theorem Wy {k:Nat}{wy cx cy:Int}{gx gy:Bool}{x y:ak}(h1:cx≠3)(h2:cy=3):vY k wy cx gx x cy gy y=(3,gy,y,0):=by
 unfold vY;rw[if_neg (show¬(cx=3∧cy=3∧gx≠gy) from fun c=>h1 c.1),if_neg h1,if_pos h2]
theorem OZ {k:Nat}{wy cx cy:Int}{gx gy:Bool}{x y:ak}(h1:cx≠3)(h2:cy≠3):vY k wy cx gx x cy gy y=nu (aG x y) (if gx=gy then gx else decide (wy=5)):=by
 unfold vY;rw[if_neg (show¬(cx=3∧cy=3∧gx≠gy) from fun c=>h1 c.1),if_neg h1,if_neg h2]
theorem EV {k:Nat}(hk:1≤k∧k≤8):ia (rdN k) (dgN k) (lsI k) (gsI k) (decide (k≤3)) (rdN k^dgN k-1) (gsI k):=by
 refine .inr ?_
 rcases bO hk with rfl|rfl|rfl|rfl|rfl|rfl|rfl|rfl<;>decide
theorem fam_one {k:Nat}(hk:1≤k∧k≤8):dK k=1↔k≤3:=by
 rcases bO hk with rfl|rfl|rfl|rfl|rfl|rfl|rfl|rfl<;>decide
structure Rnd (k:Nat) (P:fz):Prop where
 plc:Plc k P
 nil0:P.d=0→P.p=0
 spot:P.ov=false→ ¬(P.un=true∧P.p<lsI k)→P.d≠0→ia (rdN k) (dgN k) (lsI k) (gsI k) (decide (k≤3)) P.d P.p
theorem rnd_of {k:Nat}(hk:1≤k∧k≤8)(s:Bool)(N M:Nat)(E way:Int)(hN:N≠0)(hM:M≠0):Rnd k (cI (rdN k) (dgN k) (lsI k) (gsI k) (decide (k≤3)) s N M E way):=by
 obtain⟨-,-,d1,-,l1,l0,lg,g2,w64,-,ww,hg⟩:=eR hk;have hD:(1:Int)≤(dgN k:Int):=by omega
 have hfk:=fam_one hk;have hrs:=nW (R:=(rdN k:Int)) (D:=(dgN k:Int)) (L:=lsI k) (G:=gsI k) (gr:=decide (k≤3)) (qs:=s) (N:=N) (M:=M) (E:=E) (way:=way) hD lg hN hM;rw[kJ _ s N M E way hD lg hN hM] at hrs⊢;have hwl:=rP (rdN k) (dgN k) (lsI k) (decide (k≤3)) N M E hD hN hM;have hwp:=Vf (rdN k) (dgN k) (lsI k) (decide (k≤3)) N M E hD hN hM;have hds:=uh (rdN k) (dgN k) (lsI k) (decide (k≤3)) N M E hD hN hM (dj (rdN k) (dgN k) (lsI k) (decide (k≤3)) N M E);have hdz:=CD (rdN k) (dgN k) (fM (rdN k) (dgN k) (lsI k) (decide (k≤3)) s N M E way);have hdg:=KL (rdN k) (dgN k) (lsI k) (decide (k≤3)) s N M E way;have hd1:fM (rdN k) (dgN k) (lsI k) (decide (k≤3)) s N M E way≤cH (rdN k) (dgN k) (lsI k) (decide (k≤3)) N M E+1:=by
  unfold fM
  split<;>omega
 have hdn:gF (rdN k) (dgN k) (lsI k) (decide (k≤3)) N M E=0→fM (rdN k) (dgN k) (lsI k) (decide (k≤3)) s N M E way=cH (rdN k) (dgN k) (lsI k) (decide (k≤3)) N M E:=fun h=>by
  unfold fM;rw[if_neg (fun c=>of_decide_eq_false c.1 h)]
 have hcut:(k≤3→lsI k≤dj (rdN k) (dgN k) (lsI k) (decide (k≤3)) N M E)∧(¬k≤3→dj (rdN k) (dgN k) (lsI k) (decide (k≤3)) N M E=aT (rdN k) (dgN k) (dY N M E)):=by
  unfold dj;refine⟨fun h=> ?_,fun h=> ?_⟩
  ·rw[decide_eq_true h,Bool.and_true]
   split
   ·exact Int.le_refl _
   ·rename_i c
    simpa using c
  ·rw[decide_eq_false h,Bool.and_false,if_neg (by decide)]
 have hcP:gD (rdN k) (dgN k) (fM (rdN k) (dgN k) (lsI k) (decide (k≤3)) s N M E way) (dj (rdN k) (dgN k) (lsI k) (decide (k≤3)) N M E)=dj (rdN k) (dgN k) (lsI k) (decide (k≤3)) N M E∨(gD (rdN k) (dgN k) (fM (rdN k) (dgN k) (lsI k) (decide (k≤3)) s N M E way) (dj (rdN k) (dgN k) (lsI k) (decide (k≤3)) N M E)=dj (rdN k) (dgN k) (lsI k) (decide (k≤3)) N M E+1∧io (rdN k) (dgN k) (fM (rdN k) (dgN k) (lsI k) (decide (k≤3)) s N M E way)=2^ (ai (rdN k)*((dgN k:Int)-1).toNat)):=by
  unfold gD io
  split
  ·exact .inr ⟨rfl,rfl⟩
  ·exact .inl rfl
 have hpw:2^ (ai (rdN k)*((dgN k:Int)-1).toNat)<2^ (ai (rdN k)*(dgN k:Int).toNat):=by
  refine Nat.pow_lt_pow_right (by omega) (Nat.mul_lt_mul_of_pos_left ?_ (by omega));omega
 have hcl:io (rdN k) (dgN k) (fM (rdN k) (dgN k) (lsI k) (decide (k≤3)) s N M E way)<2^ (ai (rdN k)*(dgN k:Int).toNat):=by
  unfold io
  split
  ·exact hpw
  ·omega
 have hlen:(Dg.dg 65536 (io (rdN k) (dgN k) (fM (rdN k) (dgN k) (lsI k) (decide (k≤3)) s N M E way))).length≤100000:=by
  refine Nat.le_trans (Dg.dg_len_le 65536 _ 4 (by omega) (Nat.lt_of_lt_of_le hcl ?_)) (by omega);rw[Int.toNat_natCast];exact Nat.le_trans (Nat.pow_le_pow_right (by omega) w64) (by decide)
 generalize fM (rdN k) (dgN k) (lsI k) (decide (k≤3)) s N M E way=dg at*;generalize dj (rdN k) (dgN k) (lsI k) (decide (k≤3)) N M E=ct at*;generalize aT (rdN k) (dgN k) (dY N M E)=pw at*;generalize cH (rdN k) (dgN k) (lsI k) (decide (k≤3)) N M E=wh at*;generalize gF (rdN k) (dgN k) (lsI k) (decide (k≤3)) N M E=lf at*;generalize hcPe:gD (rdN k) (dgN k) dg ct=cp at*;generalize hcDe:io (rdN k) (dgN k) dg=cd at*;have hpos: ¬k≤3→cd≠0:=fun h c=>by
  have:=hwp (hcut.2 h);have:=hdz.1 c;omega
 refine⟨⟨fun hf hl=> ?_,fun hf ho hu he=> ?_,fun ho hd=> ?_,hlen,fun ho=> ?_⟩,fun hd=>if_pos hd,fun ho hnl hd=> ?_⟩
 ·simp only at hl
  have h3:=hfk.1 hf;have:=hcut.1 h3
  exfalso
  split at hl<;>omega
 ·simp only at ho hu he⊢
  have h3: ¬k≤3:=fun c=>hf (hfk.2 c)
  have e1:=hdn (of_decide_eq_true he);have e2:=hcut.2 h3;have e3:=of_decide_eq_true hu;rw[if_neg (hpos h3)];rw[e1,hds.2] at hcPe;omega
 ·exact hfk.2 (Decidable.byContradiction fun h3=>hpos h3 hd)
 ·simp only at ho⊢
  have hG:=of_decide_eq_false ho
  by_cases h3:k≤3
  ·have:=hcut.1 h3
   right
   split<;>omega
  ·rw[if_neg (hpos h3)]
   have e2:=hcut.2 h3
   by_cases hl:cp<lsI k
   ·left
    exact⟨decide_eq_true (by omega),hl⟩
   ·right
    omega
 ·simp only at ho hnl hd⊢
  rw[if_neg hd] at hnl⊢
  by_cases h3:k≤3
  ·have:=hrs ho (.inr (decide_eq_true h3))
   rw[if_neg hd] at this;exact this
  ·by_cases hu:pw<lsI k
   ·have e2:=hcut.2 h3
    have hl: ¬cp<lsI k:=fun c=>hnl ⟨decide_eq_true hu,c⟩
    have hG:=of_decide_eq_false ho;obtain⟨c1,c2⟩:=hcP.resolve_left (by omega);exact .inr ⟨hd,by omega,by omega,hcl,.inl (by omega)⟩
   ·have:=hrs ho (.inl (decide_eq_false hu))
    rw[if_neg hd] at this;exact this
def SameV (k:Nat)(r:ByteArray×Int×Int)(v:Int×Bool×ak×Int):Prop:=
 r.2.2=0∧r.2.1=v.2.2.2∧ ∀so sc w,Rd w .i64 (yS so v.2.2.1.n sc) (Dg.dg 65536 v.2.2.1.n)→yC 37 #[yi k,yoV v.1 v.2.1 v.2.2.1.s (yS so v.2.2.1.n sc) v.2.2.1.e] w (yR w (.string r.1))
theorem same_num {k:Nat}(hk:1≤k∧k≤8)(g:Bool){m:Nat}{p:Int}(fl:Int)(hm:m≠0)(hs:ia (rdN k) (dgN k) (lsI k) (gsI k) (decide (k≤3)) m p):SameV k (Dw k 2 g m p fl) (2,g,bare ⟨g,m,(ai (rdN k):Int)*p⟩,fl):=by
 obtain⟨-,-,d1,-,-,-,lg,-,w64,-,-,hg⟩:=eR hk;obtain⟨l15,p1,p2,w1',w2',t480⟩:=qj hg hs;have hh:=mI (s:=g) hg hs;have hc:chk (Dg.dg 4294967296 m)=0:=pJ (Dg.norm_dg _ _ (by omega)) (by omega);have hl0:(Dg.dg 4294967296 m).length≠0:=fun c=>hm ((Dg.dg_nil_iff 4294967296 _ (by omega)).1 (List.length_eq_zero_iff.1 c))
 have hsh:=Af (s:=g) hg hs;have hb0:(bare ⟨g,m,(ai (rdN k):Int)*p⟩).n≠0:=fun c=>hm ((fI _).1 c)
 have hbs:(bare ⟨g,m,(ai (rdN k):Int)*p⟩).s=g:=by unfold bare;rw[if_neg hm]
 have hE:enE k g (Dg.dg 4294967296 m) p=0:=by
  rw[mY hk hc hl0 (by omega),Dg.vl_dg _ _ (by omega),jK _ _ lg];rw[nN _ _ lg] at hh;rw[hh,if_pos rfl]
 have hS:fq k 2 g (Dg.dg 4294967296 m) p=cF (kU k g (heE (rdN k) (lsI k) (gW k) (plT k g (bare ⟨g,m,(ai (rdN k):Int)*p⟩).n (bare ⟨g,m,(ai (rdN k):Int)*p⟩).e)) (plT k g (bare ⟨g,m,(ai (rdN k):Int)*p⟩).n (bare ⟨g,m,(ai (rdN k):Int)*p⟩).e).d):=by
  have hN:enN k g (Dg.dg 4294967296 m) p=(bare ⟨g,m,(ai (rdN k):Int)*p⟩,0):=hsh;have hps:(plT k g (bare ⟨g,m,(ai (rdN k):Int)*p⟩).n (bare ⟨g,m,(ai (rdN k):Int)*p⟩).e).s=g:=(oj (s:=g) (way:=3) (by omega) lg hb0 hh).1;rw[(xH hk hc).2];unfold enS;rw[if_pos hE,hN];simp only;rw[hbs,hps]
 unfold Dw;rw[(xH hk hc).1,hE,if_pos rfl,hS];refine⟨rfl,rfl,fun so sc w hr=> ?_⟩
 simp only at hr⊢;have hbn:=kR ⟨g,m,(ai (rdN k):Int)*p⟩;obtain⟨b1,b2,b3⟩:=gN (t:=⟨g,m,(ai (rdN k):Int)*p⟩) hm;simp only at b2 hbn;have hlen:(Dg.dg 65536 (bare ⟨g,m,(ai (rdN k):Int)*p⟩).n).length≤20000:=by
  have hlt:m<4294967296^15:=by
   have:=Dg.vl_lt 4294967296 _ (Dg.small_dg 4294967296 m (by omega));rw[Dg.vl_dg _ _ (by omega)] at this;exact Nat.lt_of_lt_of_le this (Nat.pow_le_pow_right (by omega) l15)
  refine Nat.le_trans (Dg.dg_len_le 65536 _ 30 (by omega) (Nat.lt_of_le_of_lt hbn (Nat.lt_of_lt_of_le hlt ?_))) (by omega);exact Nat.le_of_eq (by rw[show(4294967296:Nat)=65536^2 from rfl,←Nat.pow_mul])
 exact Bu k hk g g _ so _ sc _ w hr hlen (by omega) (by omega) hb0 hh
theorem same_oth {k:Nat}(hk:1≤k∧k≤8){c:Nat}(hc:c=1∨c=3∨c=4∨c=5)(g:Bool)(fl:Int)(hs:iR k c=true)(hg:g=true→Bk k c=true):SameV k (Dw k c g 0 0 fl) ((c:Int),g,⟨false,0,0⟩,fl):=by
 have hf: ¬(dK k=0∨(c:Int)<1∨5< (c:Int)):=by
  rcases qt hk with h|h|h<;>omega
 have ho:qX k c 0 g 0=0:=by
  unfold qX;rw[if_neg (by rw[hs];decide),if_neg];rintro(h|h|h)
  ·omega
  ·exact h rfl
  ·rw[hg h.1] at h
   exact absurd h.2 (by decide)
 have hE:gI k c g (Dg.dg 4294967296 0) 0=0:=by
  unfold gI;rw[if_neg hf,if_neg (fun h=>h (by decide)),if_neg (by omega),Int.toNat_natCast,Int.toNat_natCast]
  exact ho
 have hS:fq k c g (Dg.dg 4294967296 0) 0=cF (kU k (pI k c||g) (pg k c) (lS k c)):=by
  unfold fq Fv;rw[if_neg hf,if_neg (fun h=>h (by decide)),if_neg (by omega),Int.toNat_natCast,Int.toNat_natCast]
  exact if_pos ho
 unfold Dw;rw[hE,if_pos rfl,hS];exact⟨rfl,rfl,fun so sc w hr=>Bt k c hk hc hs g false so 0 sc 0 w⟩
theorem same_plc {k:Nat}(hk:1≤k∧k≤8)(wy:Int)(P:fz)(h:Rnd k P):SameV k (Dw k (pG k wy P).1 (pG k wy P).2.1 (pG k wy P).2.2.1 (pG k wy P).2.2.2.1 (bits .or .i64 0 (pG k wy P).2.2.2.2)) (plV k wy P):=by
 have hp1:rdN k^dgN k-1≠0:=by
  rcases bO hk with rfl|rfl|rfl|rfl|rfl|rfl|rfl|rfl<;>decide
 have b5:bits .or .i64 0 5=5:=rfl;have b3:bits .or .i64 0 3=3:=rfl;unfold pG plV
 by_cases ho:P.ov=true
 ·simp only[if_pos ho]
  unfold ovV;rw[b5]
  rcases qt hk with hf|hf|hf
  ·have h3: ¬dK k=3:=by omega
   simp only[if_neg h3]
   by_cases hb:aaV wy P.s=true
   ·have hc:dK k=1∧aaV wy P.s=true:=⟨hf,hb⟩
    simp only[if_pos hc];have h3:=(fam_one hk).1 hf;exact same_oth hk (c:=3) (by decide) P.s 5 (by simp[iR,h3]) (fun _=>rfl)
   ·have hc: ¬(dK k=1∧aaV wy P.s=true):=fun c=>hb c.2
    simp only[if_neg hc];exact same_num hk P.s 5 hp1 (EV hk)
  ·have h3: ¬dK k=3:=by omega
   have hc: ¬(dK k=1∧aaV wy P.s=true):=fun c=>by omega
   simp only[if_neg h3,if_neg hc];exact same_num hk P.s 5 hp1 (EV hk)
  ·simp only[if_pos hf]
   have h6:6≤k:=by
    revert hf
    rcases bO hk with rfl|rfl|rfl|rfl|rfl|rfl|rfl|rfl<;>decide
   exact same_oth hk (c:=5) (by decide) false 5 (by simp[iR,h6]) (fun c=>by cases c)
 simp only[if_neg ho]
 by_cases hl:P.un=true∧P.p<lsI k
 ·simp only[if_pos hl]
  rw[b3];exact same_oth hk (c:=1) (by decide) false 3 rfl (fun c=>by cases c)
 simp only[if_neg hl];have hfl:bits .or .i64 0 (if P.ex=true then 0 else if P.un=true then 3 else 1)=(if P.ex=true then 0 else if P.un=true then 3 else 1):=by
  split
  ·rfl
  ·split<;>rfl
 rw[hfl]
 by_cases hd:P.d=0
 ·simp only[if_pos hd]
  rw[hd,h.nil0 hd];have h3:=(fam_one hk).1 (h.plc.nil (by simpa using ho) hd);exact same_oth hk (c:=1) (by decide) P.s _ rfl (fun _=>by simp[Bk];omega)
 ·simp only[if_neg hd]
  exact same_num hk P.s _ hd (h.spot (by simpa using ho) hl hd)
theorem aen (n c:Int)(w:World)(HN:yJ 71 #[yi n] (yoV c false false yN 0)):
  yC 35 #[yi n] w (RVF w c false ⟨false,0,0⟩ 16):=by
 replace HN:Hid _:=HN;obtain⟨W3,hW4,q1,b2⟩:=cA w (yoL 0 false false yN 0) 32;replace hW4:Hid _:=hW4
 go_enter func35,ntmps35
 go_upto_region 1 with fail
 rw[hW4.out];clear hW4
 go_wp2_with fail
 refine(HN.out _).mono ?_;rintro zz w5 ⟨rfl,bb6⟩;have q7:=q1.l bb6;have b8:=aa b2 bb6;clear q1 b2 bb6;have hf:=dL (P:=Tryz.prog) q7 b8 (by omega) underlying32 rfl (by kernel_rfl) (yi c) (.bool false) (.bool false) yN (yi 0);have HH:Hid (_∧_):=⟨hf.1,hf.2.1⟩;obtain⟨⟨z0,z1,z2,z3,z4⟩,y0,y1,y2,y3,y4⟩:=dN q7;clear hf q7 b8
 go_wp2
 obtain⟨hl,bR⟩:=HH.out;exact bodyPost_ret (aj results35 rfl rfl hl) rfl ⟨_,rfl,aN _ _,bR⟩
theorem aeo (n c wy fl:Int)(g:Bool)(x t:ak)(xo:Option Addr)(xc:Nat)(w:World)(hz:(((Dg.dg 65536 x.n).length:Int)==0)=false)
  (HO: ∀w1,yB w w1→yC 113 #[ydV x.s (yS xo x.n xc) x.e] w1 fun z w'=> ∃eo ec,z= .returned (yrV x.s (yS xo x.n xc) (.slice eo 1 ec) x.e)∧Rd w' .i64 (.slice eo 1 ec) [1]∧yB w1 w')
  (HT: ∀eo ec w1,yB w w1→Rd w1 .i64 (.slice eo 1 ec) [1]→yC 22 #[yi n,yrV x.s (yS xo x.n xc) (.slice eo 1 ec) x.e,yi wy] w1 (RVF w1 c g t fl)):
  yC 73 #[yi n,ydV x.s (yS xo x.n xc) x.e,yi wy] w (RVF w c g t fl):=by
 replace HO:Hid _:=HO;replace HT:Hid _:=HT;obtain⟨W4,hW5,q1,q2,b3⟩:=iG w (ydL x.s (yS xo x.n xc) x.e) 30 (yoL 0 false false yN 0) 32;replace hW5:Hid _:=hW5
 go_enter func73,ntmps73
 go_upto_region 1 with fail
 rw[hW5.out];clear hW5;obtain⟨c6,c7,c8⟩:=q1.cs3
 go_wp2_with fail
 refine(HO.out _ b3).mono ?_;rintro zz w9 ⟨eo,ec,rfl,r111,bb10⟩;have q12:=q2.l bb10;have b13:=aa b3 bb10;clear q1 q2 b3 bb10 HO c6 c7 c8
 go_wp2_with fail
 refine(HT.out _ _ _ b13 r111).mono ?_;rintro zz w14 ⟨v116,rfl,r117,bb15⟩;have q18:=q12.l bb15;have r19:=r111.l bb15;have b20:=aa b13 bb15;obtain⟨so,sc,hv⟩:=r117.shape;subst hv;clear q12 r111 b13 bb15 HT;have hf:=dL (P:=Tryz.prog) q18 b20 (by omega) underlying32 rfl (by kernel_rfl) (yi c) (.bool g) (.bool t.s) (yS so t.n sc) (yi t.e);have HH:Hid (_∧_∧_):=⟨hf.1,hf.2.2.rd r117 (mu r117 q18),hf.2.1⟩;obtain⟨⟨z0,z1,z2,z3,z4⟩,y0,y1,y2,y3,y4⟩:=dN q18;clear hf q18 r19 r117 b20
 go_wp2
 obtain⟨hl,rRs,bR⟩:=HH.out;exact bodyPost_ret (aj results73 rfl rfl hl) rfl ⟨_,rfl,rRs,bR⟩
theorem abS (c fl:Int)(g:Bool)(t:ak)(n wy:Int)(p q:Bool)(x y u:ak)(xo yo:Option Addr)(xc yc:Nat)(w:World)(hz:0< (Dg.dg 65536 u.n).length)
  (HP: ∀w1,yB w w1→yC 72 #[ydV x.s (yS xo x.n xc) x.e,ydV y.s (yS yo y.n yc) y.e] w1 (dr w1 u))
  (HT: ∀uo uc w1,yB w w1→Rd w1 .i64 (yS uo u.n uc) (Dg.dg 65536 u.n)→yC 73 #[yi n,ydV u.s (yS uo u.n uc) u.e,yi wy] w1 (RVF w1 c g t fl)):
  yC 36 #[yi n,ydV x.s (yS xo x.n xc) x.e,ydV y.s (yS yo y.n yc) y.e,.bool p,.bool q,yi wy] w (RVF w c g t fl):=by
 replace HP:Hid _:=HP;replace HT:Hid _:=HT;obtain⟨W5,hW6,q1,q2,q3,b4⟩:=lG w (ydL x.s (yS xo x.n xc) x.e) 30 (ydL y.s (yS yo y.n yc) y.e) 30 (yoL 0 false false yN 0) 32;replace hW6:Hid _:=hW6
 go_enter func36,ntmps36
 go_upto_region 1 with fail
 rw[hW6.out];clear hW6;obtain⟨c7,c8,c9⟩:=q1.cs3;obtain⟨c10,c11,c12⟩:=q2.cs3
 go_wp2_with fail
 refine(HP.out _ b4).mono ?_;rintro zz w13 ⟨v115,rfl,r116,bb14⟩;have q17:=q3.l bb14;have b18:=aa b4 bb14;obtain⟨uo,uc,hv⟩:=r116.shape;subst hv;clear q1 q2 q3 b4 bb14 HP c7 c8 c9 c10 c11 c12;obtain⟨W22,hW21,q20,al19⟩:=cA w13 (ydL u.s (yS uo u.n uc) u.e) 30;replace hW21:Hid _:=hW21;have hl23:w.heap.size≤w13.heap.size:=b18.size;have hl24:=q17.lt;have q25:=q17.l al19;have r26:=r116.l al19;have b27:=aa b18 al19;clear q17 r116 b18 al19
 go_upto_region 2 with fail
 rw[hW21.out];clear hW21;obtain⟨c28,c29,c30⟩:=q20.cs3
 go_wp2_with fail
 refine(HT.out _ _ _ b27 r26).mono ?_;rintro zz w31 ⟨v133,rfl,r134,bb32⟩;have q35:=q25.l bb32;have r36:=r26.l bb32;have b37:=aa b27 bb32;obtain⟨so,sc,hv⟩:=r134.shape;subst hv;clear q25 q20 r26 b27 bb32 HT c28 c29 c30;have hf:=dL (P:=Tryz.prog) q35 b37 (by omega) underlying32 rfl (by kernel_rfl) (yi c) (.bool g) (.bool t.s) (yS so t.n sc) (yi t.e);have HH:Hid (_∧_∧_):=⟨hf.1,hf.2.2.rd r134 (mu r134 q35),hf.2.1⟩;obtain⟨⟨z0,z1,z2,z3,z4⟩,y0,y1,y2,y3,y4⟩:=dN q35;clear hf q35 r36 r134 b37
 go_wp2
 obtain⟨hl,rRs,bR⟩:=HH.out;exact bodyPost_ret (aj results36 rfl rfl hl) rfl ⟨_,rfl,rRs,bR⟩
theorem aaw (n wy:Int)(p:Bool)(xs:Bool)(xe:Int)(y:ak)(us zg:Bool)(ue:Int)(xo yo:Option Addr)(xc yc:Nat)(w:World)
  (HP: ∀w1,yB w w1→yC 72 #[ydV xs (.slice xo 0 xc) xe,ydV y.s (yS yo y.n yc) y.e] w1 fun z w'=> ∃uo uc,z= .returned (ydV us (.slice uo 0 uc) ue)∧yB w1 w')
  (HZ:yJ 21 #[yi n,.bool p] (yoV 1 zg false yN 0)):
  yC 36 #[yi n,ydV xs (.slice xo 0 xc) xe,ydV y.s (yS yo y.n yc) y.e,.bool p,.bool p,yi wy] w (RVF w 1 zg ⟨false,0,0⟩ 0):=by
 replace HP:Hid _:=HP;replace HZ:Hid _:=HZ;obtain⟨W5,hW6,q1,q2,q3,b4⟩:=lG w (ydL xs (.slice xo 0 xc) xe) 30 (ydL y.s (yS yo y.n yc) y.e) 30 (yoL 0 false false yN 0) 32;replace hW6:Hid _:=hW6
 go_enter func36,ntmps36
 go_upto_region 1 with fail
 rw[hW6.out];clear hW6;obtain⟨c7,c8,c9⟩:=q1.cs3;obtain⟨c10,c11,c12⟩:=q2.cs3
 go_wp2_with fail
 refine(HP.out _ b4).mono ?_;rintro zz w13 ⟨uo,uc,rfl,bb14⟩;have q15:=q1.l bb14;have q16:=q3.l bb14;have b17:=aa b4 bb14;clear q1 q2 q3 b4 bb14 HP c7 c8 c9 c10 c11 c12;obtain⟨W21,hW20,q19,al18⟩:=cA w13 (ydL us (.slice uo 0 uc) ue) 30;replace hW20:Hid _:=hW20;have hl22:w.heap.size≤w13.heap.size:=b17.size;have hl23:=q16.lt;have q24:=q15.l al18;have q25:=q16.l al18;have b26:=aa b17 al18;clear q15 q16 b17 al18
 go_upto_region 2 with fail
 rw[hW20.out];clear hW20;have c27:=q24.c 1 rfl;have c28:=q19.c 1 rfl
 go_wp2_with fail
 refine(HZ.out _).mono ?_;rintro zz w29 ⟨rfl,bb30⟩;have q31:=q25.l bb30;have b32:=aa b26 bb30;clear q24 q25 q19 b26 bb30 HZ c27 c28;have hf:=dL (P:=Tryz.prog) q31 b32 (by omega) underlying32 rfl (by kernel_rfl) (yi 1) (.bool zg) (.bool false) yN (yi 0);have HH:Hid (_∧_):=⟨hf.1,hf.2.1⟩;obtain⟨⟨z0,z1,z2,z3,z4⟩,y0,y1,y2,y3,y4⟩:=dN q31;clear hf q31 b32
 go_wp2
 obtain⟨hl,bR⟩:=HH.out;exact bodyPost_ret (aj results36 rfl rfl hl) rfl ⟨_,rfl,aN _ _,bR⟩
theorem aax (n wy:Int)(p q:Bool)(x y:ak)(us zg:Bool)(ue:Int)(xo yo:Option Addr)(xc yc:Nat)(w:World)(hx:(((Dg.dg 65536 x.n).length:Int)==0)=false)
  (HP: ∀w1,yB w w1→yC 72 #[ydV x.s (yS xo x.n xc) x.e,ydV y.s (yS yo y.n yc) y.e] w1 fun z w'=> ∃uo uc,z= .returned (ydV us (.slice uo 0 uc) ue)∧yB w1 w')
  (HZ:yJ 21 #[yi n,.bool (wy==5)] (yoV 1 zg false yN 0)):
  yC 36 #[yi n,ydV x.s (yS xo x.n xc) x.e,ydV y.s (yS yo y.n yc) y.e,.bool p,.bool q,yi wy] w (RVF w 1 zg ⟨false,0,0⟩ 0):=by
 replace HP:Hid _:=HP;replace HZ:Hid _:=HZ;obtain⟨W5,hW6,q1,q2,q3,b4⟩:=lG w (ydL x.s (yS xo x.n xc) x.e) 30 (ydL y.s (yS yo y.n yc) y.e) 30 (yoL 0 false false yN 0) 32;replace hW6:Hid _:=hW6
 go_enter func36,ntmps36
 go_upto_region 1 with fail
 rw[hW6.out];clear hW6;obtain⟨c7,c8,c9⟩:=q1.cs3;obtain⟨c10,c11,c12⟩:=q2.cs3
 go_wp2_with fail
 refine(HP.out _ b4).mono ?_;rintro zz w13 ⟨uo,uc,rfl,bb14⟩;have q15:=q1.l bb14;have q16:=q3.l bb14;have b17:=aa b4 bb14;clear q1 q2 q3 b4 bb14 HP c7 c8 c9 c10 c11 c12;obtain⟨W21,hW20,q19,al18⟩:=cA w13 (ydL us (.slice uo 0 uc) ue) 30;replace hW20:Hid _:=hW20;have hl22:w.heap.size≤w13.heap.size:=b17.size;have hl23:=q16.lt;have q24:=q15.l al18;have q25:=q16.l al18;have b26:=aa b17 al18;clear q15 q16 b17 al18
 go_upto_region 2 with fail
 rw[hW20.out];clear hW20;have c27:=q24.c 1 rfl;have c28:=q19.c 1 rfl
 go_wp2_with fail
 refine(HZ.out _).mono ?_;rintro zz w29 ⟨rfl,bb30⟩;have q31:=q25.l bb30;have b32:=aa b26 bb30;clear q24 q25 q19 b26 bb30 HZ c27 c28;have hf:=dL (P:=Tryz.prog) q31 b32 (by omega) underlying32 rfl (by kernel_rfl) (yi 1) (.bool zg) (.bool false) yN (yi 0);have HH:Hid (_∧_):=⟨hf.1,hf.2.1⟩;obtain⟨⟨z0,z1,z2,z3,z4⟩,y0,y1,y2,y3,y4⟩:=dN q31;clear hf q31 b32
 go_wp2
 obtain⟨hl,bR⟩:=HH.out;exact bodyPost_ret (aj results36 rfl rfl hl) rfl ⟨_,rfl,aN _ _,bR⟩
theorem abT (n wy:Int)(p q:Bool)(xs:Bool)(xe:Int)(y:ak)(us zg:Bool)(ue:Int)(xo yo:Option Addr)(xc yc:Nat)(w:World)(hx:(p==q)=false)
  (HP: ∀w1,yB w w1→yC 72 #[ydV xs (.slice xo 0 xc) xe,ydV y.s (yS yo y.n yc) y.e] w1 fun z w'=> ∃uo uc,z= .returned (ydV us (.slice uo 0 uc) ue)∧yB w1 w')
  (HZ:yJ 21 #[yi n,.bool (wy==5)] (yoV 1 zg false yN 0)):
  yC 36 #[yi n,ydV xs (.slice xo 0 xc) xe,ydV y.s (yS yo y.n yc) y.e,.bool p,.bool q,yi wy] w (RVF w 1 zg ⟨false,0,0⟩ 0):=by
 replace HP:Hid _:=HP;replace HZ:Hid _:=HZ;obtain⟨W5,hW6,q1,q2,q3,b4⟩:=lG w (ydL xs (.slice xo 0 xc) xe) 30 (ydL y.s (yS yo y.n yc) y.e) 30 (yoL 0 false false yN 0) 32;replace hW6:Hid _:=hW6
 go_enter func36,ntmps36
 go_upto_region 1 with fail
 rw[hW6.out];clear hW6;obtain⟨c7,c8,c9⟩:=q1.cs3;obtain⟨c10,c11,c12⟩:=q2.cs3
 go_wp2_with fail
 refine(HP.out _ b4).mono ?_;rintro zz w13 ⟨uo,uc,rfl,bb14⟩;have q15:=q1.l bb14;have q16:=q3.l bb14;have b17:=aa b4 bb14;clear q1 q2 q3 b4 bb14 HP c7 c8 c9 c10 c11 c12;obtain⟨W21,hW20,q19,al18⟩:=cA w13 (ydL us (.slice uo 0 uc) ue) 30;replace hW20:Hid _:=hW20;have hl22:w.heap.size≤w13.heap.size:=b17.size;have hl23:=q16.lt;have q24:=q15.l al18;have q25:=q16.l al18;have b26:=aa b17 al18;clear q15 q16 b17 al18
 go_upto_region 2 with fail
 rw[hW20.out];clear hW20;have c27:=q24.c 1 rfl;have c28:=q19.c 1 rfl
 go_wp2_with fail
 refine(HZ.out _).mono ?_;rintro zz w29 ⟨rfl,bb30⟩;have q31:=q25.l bb30;have b32:=aa b26 bb30;clear q24 q25 q19 b26 bb30 HZ c27 c28;have hf:=dL (P:=Tryz.prog) q31 b32 (by omega) underlying32 rfl (by kernel_rfl) (yi 1) (.bool zg) (.bool false) yN (yi 0);have HH:Hid (_∧_):=⟨hf.1,hf.2.1⟩;obtain⟨⟨z0,z1,z2,z3,z4⟩,y0,y1,y2,y3,y4⟩:=dN q31;clear hf q31 b32
 go_wp2
 obtain⟨hl,bR⟩:=HH.out;exact bodyPost_ret (aj results36 rfl rfl hl) rfl ⟨_,rfl,aN _ _,bR⟩
theorem wT {P:Program}{fn:Func}{a t s:Nat}{ty:TypeId}{tmps:Array Value}{w:World}{b:Nat}{v u x:Value}(hres:fn.results= #[.cell a ty,.tmp t,.tmp s])(hp:tmps.getD a undef= .pointer (some ⟨b,0,none⟩))(hu:tmps.getD t undef=u)(hx:tmps.getD s undef=x)(hl:(loadVar ty ⟨b,0,none⟩).run P w= .ok v w):(results fn tmps).run P w= .ok (.tuple #[v,u,x]) w:=by
 rw[Array.getD_eq_getD_getElem?] at hp hu hx;unfold results;simp[hres,hp,hu,hx,asAddr,hl]
theorem aey (n f0 f1 f2 R D L G fam:Int)(gr ok:Bool)(cl:List Int)(pb:Nat)(w:World)(hm:cl.length≤3)(hc: ∀(i:Nat) c,cl[i]? =some c→w.cell? ⟨pb,i*5,none⟩=some (yi c))(hx: ∀c∈cl,c≤3)
  (HF:yJ 18 #[yi n] (.tuple #[yhV f0 f1 f2 R D L G gr fam,.bool ok])):
  yC 34 #[yi n,.slice (some ⟨pb,0,none⟩) cl.length cl.length] w (yR w (.tuple #[yoV 0 false false yN 0,yi 0,.bool false])):=by
 obtain⟨m,hmE⟩: ∃m,cl.length=m:=⟨_,rfl⟩;rw[hmE] at hm⊢;have HM:Hid (cl.length=m):=hmE;have HC:Hid _:=hc;have HX:Hid _:=hx;replace HF:Hid _:=HF;clear hmE hc hx;obtain⟨W0,hW0,q0,b0⟩:=cA w (yoL 0 false false yN 0) 32;replace hW0:Hid _:=hW0
 go_enter func34,ntmps34
 go_upto_region 1 with fail
 rw[hW0.out];clear hW0
 go_wp2_with fail
 refine(HF.out _).mono ?_;rintro z w1 ⟨rfl,b1⟩;have q1:=q0.l b1;have b01:=aa b0 b1;obtain⟨W2,hW2,f2',al⟩:=cA w1 (yhL f0 f1 f2 R D L G gr fam) 50;replace hW2:Hid _:=hW2;have hl:=q1.lt;have q2:=q1.l al;have b02:=aa b01 al;clear q0 b0 q1 b1 b01 al HF
 go_upto_region 2 with fail
 rw[hW2.out];clear hW2;have CR:Hid (∀(i:Nat) c,cl[i]? =some c→W2.cell? ⟨pb,i*5,none⟩=some (yi c)):=fun i c hi=>cell_later b02 (HC.out i c hi)
 clear HC
 go_wp2
 go_loopw [9] (fun iv wr=> ∃i:Nat,iv=yi i∧i≤m∧wr=W2) (fun iv _=>m-(intOf iv).toNat)
 case atStart=>exact⟨0,rfl,by omega,rfl⟩
 case round=>
  obtain⟨i,rfl,him,rfl⟩:=hrel
  by_cases hlt:i<m
  ·have hil:i<cl.length:=by have:=HM.out;omega
   obtain⟨c,hp⟩: ∃c,cl[i]? =some c:=⟨_,List.getElem?_eq_getElem hil⟩;have y:=CR.out i c hp;have hle:c≤3:=HX.out c (List.mem_of_getElem? hp);clear hp hil
   go_wp2
   go_roundw
   case rel=>exact⟨i+1,by go_num,by omega,trivial⟩
   case measure=>simp[intOf];omega
  ·have hf:=dL (P:=Tryz.prog) q2 b02 (by omega) underlying32 rfl (by kernel_rfl) (yi 0) (.bool false) (.bool false) yN (yi 0)
   have HH:Hid (_∧_):=⟨hf.1,hf.2.1⟩;obtain⟨⟨z0,z1,z2,z3,z4⟩,y0,y1,y2,y3,y4⟩:=dN q2;clear hf q2 b02
   go_wp2
   obtain⟨hl,bR⟩:=HH.out;exact bodyPost_ret (wT results34 rfl rfl rfl hl) rfl ⟨rfl,bR⟩
theorem aez (n f0 f1 f2 R D L G c0:Int)(gr ok:Bool)(cl:List Int)(pb:Nat)(w:World)(hm:cl.length≤3)(hc: ∀(i:Nat) c,cl[i]? =some c→w.cell? ⟨pb,i*5,none⟩=some (yi c))(hx: ∃j c,0≤j∧cl[j]? =some c∧4≤c)
  (HF:yJ 18 #[yi n] (.tuple #[yhV f0 f1 f2 R D L G gr 3,.bool ok]))
  (HN:yJ 71 #[yi n] (yoV c0 false false yN 0)):
  yC 34 #[yi n,.slice (some ⟨pb,0,none⟩) cl.length cl.length] w (yR w (.tuple #[yoV c0 false false yN 0,yi 16,.bool true])):=by
 obtain⟨m,hmE⟩: ∃m,cl.length=m:=⟨_,rfl⟩;rw[hmE] at hm⊢;have HM:Hid (cl.length=m):=hmE;have HC:Hid _:=hc;have HX:Hid _:=hx;replace HF:Hid _:=HF;replace HN:Hid _:=HN;clear hmE hc hx;obtain⟨W0,hW0,q0,b0⟩:=cA w (yoL 0 false false yN 0) 32;replace hW0:Hid _:=hW0
 go_enter func34,ntmps34
 go_upto_region 1 with fail
 rw[hW0.out];clear hW0
 go_wp2_with fail
 refine(HF.out _).mono ?_;rintro z w1 ⟨rfl,b1⟩;have q1:=q0.l b1;have b01:=aa b0 b1;obtain⟨W2,hW2,f2',al⟩:=cA w1 (yhL f0 f1 f2 R D L G gr 3) 50;replace hW2:Hid _:=hW2;have hl:=q1.lt;have q2:=q1.l al;have b02:=aa b01 al;clear q0 b0 q1 b1 b01 al HF
 go_upto_region 2 with fail
 rw[hW2.out];clear hW2;have CR:Hid (∀(i:Nat) c,cl[i]? =some c→W2.cell? ⟨pb,i*5,none⟩=some (yi c)):=fun i c hi=>cell_later b02 (HC.out i c hi)
 clear HC
 go_wp2
 go_loopw [9] (fun iv wr=> ∃i:Nat,iv=yi i∧i≤m∧Hid (∃j c,i≤j∧cl[j]? =some c∧4≤c)∧wr=W2) (fun iv _=>m-(intOf iv).toNat)
 case atStart=>exact⟨0,rfl,by omega,HX.out,rfl⟩
 case round=>
  obtain⟨i,rfl,him,HJ,rfl⟩:=hrel
  by_cases hlt:i<m
  ·have hil:i<cl.length:=by have:=HM.out;omega
   obtain⟨c,hp⟩: ∃c,cl[i]? =some c:=⟨_,List.getElem?_eq_getElem hil⟩;have y:=CR.out i c hp
   by_cases h4:4≤c
   ·clear hp hil
    have g8:=f2'.c 8 rfl
    go_wp2_with fail
    refine(HN.out _).mono ?_;rintro z w3 ⟨rfl,b3⟩;have q3:=q2.l b3;have b03:=aa b02 b3;clear g8 f2' q2 b02 b3 CR y;have hf:=dL (P:=Tryz.prog) q3 b03 (by omega) underlying32 rfl (by kernel_rfl) (yi c0) (.bool false) (.bool false) yN (yi 0);have HH:Hid (_∧_):=⟨hf.1,hf.2.1⟩;obtain⟨⟨z0,z1,z2,z3,z4⟩,y0,y1,y2,y3,y4⟩:=dN q3;clear hf q3 b03
    go_wp2
    obtain⟨hl,bR⟩:=HH.out;exact bodyPost_ret (wT results34 rfl rfl rfl hl) rfl ⟨rfl,bR⟩
   ·have HJ2:Hid (∃j c,i+1≤j∧cl[j]? =some c∧4≤c):=by
     obtain⟨j,d,h1,h2,h5⟩:=HJ.out;refine⟨j,d, ?_,h2,h5⟩
     rcases Nat.lt_or_ge i j with g|g
     ·exact g
     ·have:j=i:=by omega
      subst this;rw[hp] at h2
      cases h2
      omega
    clear hp hil HJ
    go_wp2
    go_roundw
    case rel=>exact⟨i+1,by go_num,by omega,HJ2,trivial⟩
    case measure=>simp[intOf];omega
  ·exfalso
   obtain⟨j,d,h1,h2,h5⟩:=HJ.out;have h6:=(List.getElem?_eq_some_iff.1 h2).1;have:=HM.out;omega
theorem aff (n f0 f1 f2 R D L G fam c0:Int)(gr ok:Bool)(cl:List Int)(pb:Nat)(w:World)(hm:cl.length≤3)(hc: ∀(i:Nat) c,cl[i]? =some c→w.cell? ⟨pb,i*5,none⟩=some (yi c))(hf3:(fam==3)=false)(hx: ∃j c,0≤j∧cl[j]? =some c∧4≤c)
  (HF:yJ 18 #[yi n] (.tuple #[yhV f0 f1 f2 R D L G gr fam,.bool ok]))
  (HN:yJ 71 #[yi n] (yoV c0 false false yN 0)):
  yC 34 #[yi n,.slice (some ⟨pb,0,none⟩) cl.length cl.length] w (yR w (.tuple #[yoV c0 false false yN 0,yi 0,.bool true])):=by
 obtain⟨m,hmE⟩: ∃m,cl.length=m:=⟨_,rfl⟩;rw[hmE] at hm⊢;have HM:Hid (cl.length=m):=hmE;have HC:Hid _:=hc;have HX:Hid _:=hx;replace HF:Hid _:=HF;replace HN:Hid _:=HN;clear hmE hc hx;obtain⟨W0,hW0,q0,b0⟩:=cA w (yoL 0 false false yN 0) 32;replace hW0:Hid _:=hW0
 go_enter func34,ntmps34
 go_upto_region 1 with fail
 rw[hW0.out];clear hW0
 go_wp2_with fail
 refine(HF.out _).mono ?_;rintro z w1 ⟨rfl,b1⟩;have q1:=q0.l b1;have b01:=aa b0 b1;obtain⟨W2,hW2,f2',al⟩:=cA w1 (yhL f0 f1 f2 R D L G gr fam) 50;replace hW2:Hid _:=hW2;have hl:=q1.lt;have q2:=q1.l al;have b02:=aa b01 al;clear q0 b0 q1 b1 b01 al HF
 go_upto_region 2 with fail
 rw[hW2.out];clear hW2;have CR:Hid (∀(i:Nat) c,cl[i]? =some c→W2.cell? ⟨pb,i*5,none⟩=some (yi c)):=fun i c hi=>cell_later b02 (HC.out i c hi)
 clear HC
 go_wp2
 go_loopw [9] (fun iv wr=> ∃i:Nat,iv=yi i∧i≤m∧Hid (∃j c,i≤j∧cl[j]? =some c∧4≤c)∧wr=W2) (fun iv _=>m-(intOf iv).toNat)
 case atStart=>exact⟨0,rfl,by omega,HX.out,rfl⟩
 case round=>
  obtain⟨i,rfl,him,HJ,rfl⟩:=hrel
  by_cases hlt:i<m
  ·have hil:i<cl.length:=by have:=HM.out;omega
   obtain⟨c,hp⟩: ∃c,cl[i]? =some c:=⟨_,List.getElem?_eq_getElem hil⟩;have y:=CR.out i c hp
   by_cases h4:4≤c
   ·clear hp hil
    have g8:=f2'.c 8 rfl
    go_wp2_with fail
    refine(HN.out _).mono ?_;rintro z w3 ⟨rfl,b3⟩;have q3:=q2.l b3;have b03:=aa b02 b3;clear g8 f2' q2 b02 b3 CR y;have hf:=dL (P:=Tryz.prog) q3 b03 (by omega) underlying32 rfl (by kernel_rfl) (yi c0) (.bool false) (.bool false) yN (yi 0);have HH:Hid (_∧_):=⟨hf.1,hf.2.1⟩;obtain⟨⟨z0,z1,z2,z3,z4⟩,y0,y1,y2,y3,y4⟩:=dN q3;clear hf q3 b03
    go_wp2
    obtain⟨hl,bR⟩:=HH.out;exact bodyPost_ret (wT results34 rfl rfl rfl hl) rfl ⟨rfl,bR⟩
   ·have HJ2:Hid (∃j c,i+1≤j∧cl[j]? =some c∧4≤c):=by
     obtain⟨j,d,h1,h2,h5⟩:=HJ.out;refine⟨j,d, ?_,h2,h5⟩
     rcases Nat.lt_or_ge i j with g|g
     ·exact g
     ·have:j=i:=by omega
      subst this;rw[hp] at h2
      cases h2
      omega
    clear hp hil HJ
    go_wp2
    go_roundw
    case rel=>exact⟨i+1,by go_num,by omega,HJ2,trivial⟩
    case measure=>simp[intOf];omega
  ·exfalso
   obtain⟨j,d,h1,h2,h5⟩:=HJ.out;have h6:=(List.getElem?_eq_some_iff.1 h2).1;have:=HM.out;omega
end Go.Proofs.YtbdokgamhinajaaGreatDoor

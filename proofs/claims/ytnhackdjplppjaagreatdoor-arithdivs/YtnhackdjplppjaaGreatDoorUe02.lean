/-
  Texts laid together: Pa6, Ra2, Fi3, Ra3, Ga5, Ra4, Ga3, Gc2, Pa7, Bl1.
-/
import Derived.Test.YtnhackdjplppjaaGreatDoorUe01
set_option maxRecDepth 100000
set_option maxHeartbeats 3200000
namespace Go.Proofs.YtnhackdjplppjaaGreatDoor
open _root_.Go.Proofs.Tryz
open Go.RowKit
def EU (k:Nat)(ng:Bool):Int×Bool×ak×Int:=
 if dK (k:Int)=1 then(3,ng,⟨false,0,0⟩,8) else if dK (k:Int)=2 then((nu (bare ⟨ng,rdN k^dgN k-1,(ai (rdN k:Int):Int)*gsI k⟩) ng).1,(nu (bare ⟨ng,rdN k^dgN k-1,(ai (rdN k:Int):Int)*gsI k⟩) ng).2.1,(nu (bare ⟨ng,rdN k^dgN k-1,(ai (rdN k:Int):Int)*gsI k⟩) ng).2.2.1,8) else noV k 8
def wu (k:Nat)(cx:Int)(gx:Bool)(x:ak)(cy:Int)(gy:Bool)(y:ak):Int×Bool×ak×Int:=
 if cx=3∧cy=3∨cx=1∧cy=1 then noV k 16 else if cx=3 then(3,gx != gy,⟨false,0,0⟩,0) else if cy=3 then(1,gx != gy,⟨false,0,0⟩,0) else if cy=1 then EU k (gx != gy) else nu (cK x y 128) (gx != gy)
theorem Mb (k:Nat)(hk:1≤k∧k≤8)(wy:Int)(ng:Bool)(w:World)(hT:Tab w):yC 128 #[dsk k wy,.bool ng] w (RE w (EU k ng)):=by
 unfold EU;have HG:=fun w1=>Ba k hk wy ng w1
 have HN:=fun w1=>lV k hk wy 8 w1
 unfold dsk at HG HN⊢
 rcases qt hk with h|h|h
 ·rw[h,if_pos rfl]
  exact UY _ _ _ _ _ _ _ _ w
 ·rw[h] at HG⊢
  rw[if_neg (by decide),if_pos rfl];refine U0 _ _ (rdN k^dgN k-1) (bare ⟨ng,rdN k^dgN k-1,(ai (rdN k:Int):Int)*gsI k⟩) _ _ _ _ _ _ _ _ _ w (fun w1 _=>HG w1) (fun mo mc w1 b r=> ?_) (fun xo xc w1=>iK _ _ _ _ _ w1) (fun xo xc w1 r=>mT _ ng xo xc w1 r)
  have hg:=(eR hk).2.2.2.2.2.2.2.2.2.2.2;have hs:=Af (s:=ng) hg (EV hk);refine(IY _ _ _ _ _ _ 0 _ _ _ _ _ (bare ⟨ng,rdN k^dgN k-1,(ai (rdN k:Int):Int)*gsI k⟩) w1 (fun w2 b2=> ?_)).mono (fun z w' hz=> ?_)
  ·have:=kB (rdN k:Int) (dgN k:Int) (lsI k) (gsI k) (decide (k≤3)) ng mo mc (Dg.dg 4294967296 (rdN k^dgN k-1)) (gsI k) false false false w2 (r.l b2) (Dg.small_dg _ _ (by omega)) (hT.l (aa b b2))
   rw[hs] at this;exact this
  ·obtain⟨v,h1,h2,-,h3⟩:=hz
   exact⟨v,h1,h2,h3⟩
 ·rw[h,if_neg (by decide),if_neg (by decide)]
  unfold noV;rw[h] at HN⊢;exact UZ _ _ _ _ _ _ _ _ _ w HN
theorem TO {x y:ak}(hx:iZ x)(hy:iZ y):sH (cK x y 128):=by
 obtain⟨x1,x2,x3⟩:=hx;obtain⟨y1,y2,y3⟩:=hy;have hb:=bF _ _ y1;have ha:=bF _ _ x1;have hS:gV x y 128≤192∧bitLen x.n+gV x y 128≤192:=by unfold gV;omega
 have h1:x.n*2^gV x y 128/y.n<2^192:=by
  refine Nat.lt_of_le_of_lt (Nat.div_le_self _ _) ?_;refine zw (a:=bitLen x.n+gV x y 128) ?_ hS.2;rw[Nat.pow_add];exact Nat.mul_lt_mul_of_pos_right (wZ (Nat.le_refl _)) (bG _)
 have h2:(cK x y 128).n<2^193:=by
  show x.n*2^gV x y 128/y.n*2+(if _ then 1 else 0)<2^193
  have e:2^193=2^192*2:=Nat.pow_succ ..
  split<;>omega
 have h3:=bF _ _ h2;have he:(cK x y 128).e=x.e-y.e-(gV x y 128:Int)-1:=rfl;exact⟨by omega,by omega⟩
theorem Hg (k:Nat)(hk:1≤k∧k≤8)(wy cx cy:Int)(gx gy:Bool)(x y:ak)(xo yo:Option Addr)(xc yc:Nat)(w:World)(rx:rdT w x xo xc)(ry:rdT w y yo yc)(sx:iZ x)(sy:iZ y)(hy0:cy≠1→cy≠3→y.n≠0)(hT:Tab w):
  yC 69 #[dsk k wy,opV cx gx x xo xc,opV cy gy y yo yc] w (RE w (wu k cx gx x cy gy y)):=by
 have HT:=fun(h:y.n≠0) w1 (b:yB w w1)=>Jw _ _ x y 128 w1 ⟨_,rfl,rx.l b⟩ ⟨_,rfl,ry.l b⟩ (Nat.pos_of_ne_zero h) (jq sx.1 (by omega)) (jq sy.1 (by omega)) (by have:=sx.2;omega) (by have:=sx.2;omega) (by have:=sy.2;omega) (by have:=sy.2;omega) (by omega)
 have HM:=fun uo uc w1 h=>mT (cK x y 128) (gx != gy) uo uc w1 h
 unfold wu
 by_cases hx:cx=3
 ·subst hx
  by_cases hy:cy=3
  ·subst hy
   rw[if_pos (.inl ⟨rfl,rfl⟩)];exact K6 _ _ _ _ _ _ _ _ _ _ _ _ _ _ _ _ _ w (fun w1=>lV k hk wy 16 w1)
  ·rw[if_neg (by omega),if_pos rfl]
   exact K8 _ _ _ _ _ _ _ _ _ _ _ _ _ _ _ _ _ w (ne3 hy)
 ·by_cases hy:cy=3
  ·subst hy
   rw[if_neg (by omega),if_neg hx,if_pos rfl]
   by_cases h1:cx=1
   ·subst h1
    exact K9 _ _ _ _ _ _ _ _ _ _ _ _ _ _ _ _ w
   ·exact La _ _ _ _ _ _ _ _ _ _ _ _ _ _ _ _ _ w (ne3 hx) (ne1 h1)
  ·by_cases h1:cy=1
   ·subst h1
    by_cases h2:cx=1
    ·subst h2
     rw[if_pos (.inr ⟨rfl,rfl⟩)];exact K7 _ _ _ _ _ _ _ _ _ _ _ _ _ _ _ _ _ w (fun w1=>lV k hk wy 16 w1)
    ·rw[if_neg (by omega),if_neg hx,if_neg hy,if_pos rfl]
     exact Lb _ _ _ _ _ _ _ _ _ _ _ _ _ _ _ _ _ _ _ _ _ w (ne3 hx) (ne1 h2) (fun w1 b=>Mb k hk wy (gx != gy) w1 (hT.l b))
   ·rw[if_neg (by omega),if_neg hx,if_neg hy,if_neg h1]
    by_cases h2:cx=1
    ·subst h2
     exact Lc _ _ _ _ _ _ _ _ _ _ _ _ _ _ _ _ _ _ _ _ _ w (ne3 hy) (ne1 h1) (HT (hy0 h1 hy)) HM
    ·exact H8 _ _ _ _ _ _ _ _ _ _ _ _ _ _ _ _ _ _ _ _ _ _ w (ne3 hx) (ne1 h2) (ne3 hy) (ne1 h1) (HT (hy0 h1 hy)) HM
theorem fam_one {k:Nat}(hk:1≤k∧k≤8):dK (k:Int)=1↔k≤3:=by
 rcases bO hk with rfl|rfl|rfl|rfl|rfl|rfl|rfl|rfl<;>decide
structure Rnd (k:Nat) (P:fz):Prop where
 plc:Plc k P
 nil0:P.d=0→P.p=0
 spot:P.ov=false→ ¬(P.un=true∧P.p<lsI k)→P.d≠0→ia (rdN k:Int) (dgN k:Int) (lsI k) (gsI k) (decide (k≤3)) P.d P.p
theorem rnd_of {k:Nat}(hk:1≤k∧k≤8)(s:Bool)(N M:Nat)(E way:Int)(hN:N≠0)(hM:M≠0):Rnd k (cI (rdN k:Int) (dgN k:Int) (lsI k) (gsI k) (decide (k≤3)) s N M E way):=by
 obtain⟨-,-,d1,-,l1,l0,lg,g2,w64,-,ww,hg⟩:=eR hk;have hD:(1:Int)≤(dgN k:Int):=by omega
 have hfk:=fam_one hk;have hrs:=nW (R:=(rdN k:Int)) (D:=(dgN k:Int)) (L:=lsI k) (G:=gsI k) (gr:=decide (k≤3)) (qs:=s) (N:=N) (M:=M) (E:=E) (way:=way) hD lg hN hM;rw[kJ _ s N M E way hD lg hN hM] at hrs⊢;have hwl:=rP (rdN k:Int) (dgN k:Int) (lsI k) (decide (k≤3)) N M E hD hN hM;have hwp:=Vf (rdN k:Int) (dgN k:Int) (lsI k) (decide (k≤3)) N M E hD hN hM;have hds:=uh (rdN k:Int) (dgN k:Int) (lsI k) (decide (k≤3)) N M E hD hN hM (dj (rdN k:Int) (dgN k:Int) (lsI k) (decide (k≤3)) N M E);have hdz:=CD (rdN k:Int) (dgN k:Int) (fM (rdN k:Int) (dgN k:Int) (lsI k) (decide (k≤3)) s N M E way);have hdg:=KL (rdN k:Int) (dgN k:Int) (lsI k) (decide (k≤3)) s N M E way;have hd1:fM (rdN k:Int) (dgN k:Int) (lsI k) (decide (k≤3)) s N M E way≤cH (rdN k:Int) (dgN k:Int) (lsI k) (decide (k≤3)) N M E+1:=by
  unfold fM
  split<;>omega
 have hdn:gF (rdN k:Int) (dgN k:Int) (lsI k) (decide (k≤3)) N M E=0→fM (rdN k:Int) (dgN k:Int) (lsI k) (decide (k≤3)) s N M E way=cH (rdN k:Int) (dgN k:Int) (lsI k) (decide (k≤3)) N M E:=fun h=>by
  unfold fM;rw[if_neg (fun c=>of_decide_eq_false c.1 h)]
 have hcut:(k≤3→lsI k≤dj (rdN k:Int) (dgN k:Int) (lsI k) (decide (k≤3)) N M E)∧(¬k≤3→dj (rdN k:Int) (dgN k:Int) (lsI k) (decide (k≤3)) N M E=aT (rdN k:Int) (dgN k:Int) (dY N M E)):=by
  unfold dj;refine⟨fun h=> ?_,fun h=> ?_⟩
  ·rw[decide_eq_true h,Bool.and_true]
   split
   ·exact Int.le_refl _
   ·rename_i c
    simpa using c
  ·rw[decide_eq_false h,Bool.and_false,if_neg (by decide)]
 have hcP:gD (rdN k:Int) (dgN k:Int) (fM (rdN k:Int) (dgN k:Int) (lsI k) (decide (k≤3)) s N M E way) (dj (rdN k:Int) (dgN k:Int) (lsI k) (decide (k≤3)) N M E)=dj (rdN k:Int) (dgN k:Int) (lsI k) (decide (k≤3)) N M E∨(gD (rdN k:Int) (dgN k:Int) (fM (rdN k:Int) (dgN k:Int) (lsI k) (decide (k≤3)) s N M E way) (dj (rdN k:Int) (dgN k:Int) (lsI k) (decide (k≤3)) N M E)=dj (rdN k:Int) (dgN k:Int) (lsI k) (decide (k≤3)) N M E+1∧io (rdN k:Int) (dgN k:Int) (fM (rdN k:Int) (dgN k:Int) (lsI k) (decide (k≤3)) s N M E way)=2^ (ai (rdN k:Int)*((dgN k:Int)-1).toNat)):=by
  unfold gD io
  split
  ·exact .inr ⟨rfl,rfl⟩
  ·exact .inl rfl
 have hpw:2^ (ai (rdN k:Int)*((dgN k:Int)-1).toNat)<2^ (ai (rdN k:Int)*(dgN k:Int).toNat):=by
  refine Nat.pow_lt_pow_right (by omega) (Nat.mul_lt_mul_of_pos_left ?_ (by omega));omega
 have hcl:io (rdN k:Int) (dgN k:Int) (fM (rdN k:Int) (dgN k:Int) (lsI k) (decide (k≤3)) s N M E way)<2^ (ai (rdN k:Int)*(dgN k:Int).toNat):=by
  unfold io
  split
  ·exact hpw
  ·omega
 have hlen:(Dg.dg 65536 (io (rdN k:Int) (dgN k:Int) (fM (rdN k:Int) (dgN k:Int) (lsI k) (decide (k≤3)) s N M E way))).length≤100000:=by
  refine Nat.le_trans (Dg.dg_len_le 65536 _ 4 (by omega) (Nat.lt_of_lt_of_le hcl ?_)) (by omega);rw[Int.toNat_natCast];exact Nat.le_trans (Nat.pow_le_pow_right (by omega) w64) (by decide)
 generalize fM (rdN k:Int) (dgN k:Int) (lsI k) (decide (k≤3)) s N M E way=dg at*;generalize dj (rdN k:Int) (dgN k:Int) (lsI k) (decide (k≤3)) N M E=ct at*;generalize aT (rdN k:Int) (dgN k:Int) (dY N M E)=pw at*;generalize cH (rdN k:Int) (dgN k:Int) (lsI k) (decide (k≤3)) N M E=wh at*;generalize gF (rdN k:Int) (dgN k:Int) (lsI k) (decide (k≤3)) N M E=lf at*;generalize hcPe:gD (rdN k:Int) (dgN k:Int) dg ct=cp at*;generalize hcDe:io (rdN k:Int) (dgN k:Int) dg=cd at*;have hpos: ¬k≤3→cd≠0:=fun h c=>by
  have:=hwp (hcut.2 h);have:=hdz.1 c;omega
 refine⟨⟨fun hf hl=> ?_,fun hf ho hu he=> ?_,fun ho hd=> ?_,hlen,fun ho=> ?_⟩,fun hd=>if_pos hd,fun ho hnl hd=> ?_⟩
 ·simp only at hl
  have h3:=hfk.1 hf;have:=hcut.1 h3
  exfalso
  split at hl<;>omega
 ·simp only at ho hu he⊢
  have h3: ¬k≤3:=fun c=>hf (hfk.2 c)
  have e1:=hdn (of_decide_eq_true he);have e2:=hcut.2 h3;have e3:=of_decide_eq_true hu;rw[if_neg (hpos h3)];rw[e1,hds.2] at hcPe;omega
 ·exact hfk.2 (Decidable.byContradiction fun h3=>hpos h3 hd)
 ·simp only at ho⊢
  have hG:=of_decide_eq_false ho
  by_cases h3:k≤3
  ·have:=hcut.1 h3
   right
   split<;>omega
  ·rw[if_neg (hpos h3)]
   have e2:=hcut.2 h3
   by_cases hl:cp<lsI k
   ·left
    exact⟨decide_eq_true (by omega),hl⟩
   ·right
    omega
 ·simp only at ho hnl hd⊢
  rw[if_neg hd] at hnl⊢
  by_cases h3:k≤3
  ·have:=hrs ho (.inr (decide_eq_true h3))
   rw[if_neg hd] at this;exact this
  ·by_cases hu:pw<lsI k
   ·have e2:=hcut.2 h3
    have hl: ¬cp<lsI k:=fun c=>hnl ⟨decide_eq_true hu,c⟩
    have hG:=of_decide_eq_false ho;obtain⟨c1,c2⟩:=hcP.resolve_left (by omega);exact .inr ⟨hd,by omega,by omega,hcl,.inl (by omega)⟩
   ·have:=hrs ho (.inl (decide_eq_false hu))
    rw[if_neg hd] at this;exact this
def SameV (k:Nat)(r:ByteArray×Int×Int)(v:Int×Bool×ak×Int):Prop:=
 r.2.2=0∧r.2.1=v.2.2.2∧ ∀so sc w,Rd w .i64 (.slice so (Dg.dg 65536 v.2.2.1.n).length sc) (Dg.dg 65536 v.2.2.1.n)→yC 61 #[yi (k:Int),yoV v.1 v.2.1 v.2.2.1.s (.slice so (Dg.dg 65536 v.2.2.1.n).length sc) v.2.2.1.e] w (yR w (.string r.1))
theorem same_num {k:Nat}(hk:1≤k∧k≤8)(g:Bool){m:Nat}{p:Int}(fl:Int)(hm:m≠0)(hs:ia (rdN k:Int) (dgN k:Int) (lsI k) (gsI k) (decide (k≤3)) m p):SameV k (Dw k 2 g m p fl) (2,g,bare ⟨g,m,(ai (rdN k:Int):Int)*p⟩,fl):=by
 obtain⟨-,-,d1,-,-,-,lg,-,w64,-,-,hg⟩:=eR hk;obtain⟨l15,p1,p2,w1',w2',t480⟩:=qj hg hs;have hh:=mI (s:=g) hg hs;have hc:chk (Dg.dg 4294967296 m)=0:=pJ (Dg.norm_dg _ _ (by omega)) (by omega);have hl0:(Dg.dg 4294967296 m).length≠0:=fun c=>hm ((Dg.dg_nil_iff 4294967296 _ (by omega)).1 (List.length_eq_zero_iff.1 c))
 have hsh:=Af (s:=g) hg hs;have hb0:(bare ⟨g,m,(ai (rdN k:Int):Int)*p⟩).n≠0:=fun c=>hm ((fI _).1 c)
 have hbs:(bare ⟨g,m,(ai (rdN k:Int):Int)*p⟩).s=g:=by unfold bare;rw[if_neg hm]
 have hE:enE k g (Dg.dg 4294967296 m) p=0:=by
  rw[mY hk hc hl0 (by omega),Dg.vl_dg _ _ (by omega),jK _ _ lg];rw[nN _ _ lg] at hh;rw[hh,if_pos rfl]
 have hS:fq (k:Int) 2 g (Dg.dg 4294967296 m) p=cF (kU k g (heE (rdN k:Int) (lsI k) (gW k) (plT k g (bare ⟨g,m,(ai (rdN k:Int):Int)*p⟩).n (bare ⟨g,m,(ai (rdN k:Int):Int)*p⟩).e)) (plT k g (bare ⟨g,m,(ai (rdN k:Int):Int)*p⟩).n (bare ⟨g,m,(ai (rdN k:Int):Int)*p⟩).e).d):=by
  have hN:enN k g (Dg.dg 4294967296 m) p=(bare ⟨g,m,(ai (rdN k:Int):Int)*p⟩,0):=hsh;have hps:(plT k g (bare ⟨g,m,(ai (rdN k:Int):Int)*p⟩).n (bare ⟨g,m,(ai (rdN k:Int):Int)*p⟩).e).s=g:=(oj (s:=g) (way:=3) (by omega) lg hb0 hh).1;rw[(xH hk hc).2];unfold enS;rw[if_pos hE,hN];simp only;rw[hbs,hps]
 unfold Dw;rw[(xH hk hc).1,hE,if_pos rfl,hS];refine⟨rfl,rfl,fun so sc w hr=> ?_⟩
 simp only at hr⊢;have hbn:=kR ⟨g,m,(ai (rdN k:Int):Int)*p⟩;obtain⟨b1,b2,b3⟩:=gN (t:=⟨g,m,(ai (rdN k:Int):Int)*p⟩) hm;simp only at b2 hbn;have hlen:(Dg.dg 65536 (bare ⟨g,m,(ai (rdN k:Int):Int)*p⟩).n).length≤20000:=by
  have hlt:m<4294967296^15:=by
   have:=Dg.vl_lt 4294967296 _ (Dg.small_dg 4294967296 m (by omega));rw[Dg.vl_dg _ _ (by omega)] at this;exact Nat.lt_of_lt_of_le this (Nat.pow_le_pow_right (by omega) l15)
  refine Nat.le_trans (Dg.dg_len_le 65536 _ 30 (by omega) (Nat.lt_of_le_of_lt hbn (Nat.lt_of_lt_of_le hlt ?_))) (by omega);exact Nat.le_of_eq (by rw[show(4294967296:Nat)=65536^2 from rfl,←Nat.pow_mul])
 exact Bu k hk g g _ so _ sc _ w hr hlen (by omega) (by omega) hb0 hh
theorem same_oth {k:Nat}(hk:1≤k∧k≤8){c:Nat}(hc:c=1∨c=3∨c=4∨c=5)(g:Bool)(fl:Int)(hs:iR k c=true)(hg:g=true→Bk k c=true):SameV k (Dw k (c:Int) g 0 0 fl) ((c:Int),g,⟨false,0,0⟩,fl):=by
 have hf: ¬(dK (k:Int)=0∨(c:Int)<1∨5< (c:Int)):=by
  rcases qt hk with h|h|h<;>omega
 have ho:qX k c 0 g 0=0:=by
  unfold qX;rw[if_neg (by rw[hs];decide),if_neg];rintro(h|h|h)
  ·omega
  ·exact h rfl
  ·rw[hg h.1] at h
   exact absurd h.2 (by decide)
 have hE:gI (k:Int) (c:Int) g (Dg.dg 4294967296 0) 0=0:=by
  unfold gI;rw[if_neg hf,if_neg (fun h=>h (by decide)),if_neg (by omega),Int.toNat_natCast,Int.toNat_natCast]
  exact ho
 have hS:fq (k:Int) (c:Int) g (Dg.dg 4294967296 0) 0=cF (kU k (pI k c||g) (pg k c) (lS k c)):=by
  unfold fq Fv;rw[if_neg hf,if_neg (fun h=>h (by decide)),if_neg (by omega),Int.toNat_natCast,Int.toNat_natCast]
  exact if_pos ho
 unfold Dw;rw[hE,if_pos rfl,hS];exact⟨rfl,rfl,fun so sc w hr=>Bt k c hk hc hs g false so 0 sc 0 w⟩
theorem same_plc {k:Nat}(hk:1≤k∧k≤8)(wy:Int)(P:fz)(h:Rnd k P):SameV k (Dw k (pG k wy P).1 (pG k wy P).2.1 (pG k wy P).2.2.1 (pG k wy P).2.2.2.1 (bits .or .i64 0 (pG k wy P).2.2.2.2)) (plV k wy P):=by
 have hp1:rdN k^dgN k-1≠0:=by
  rcases bO hk with rfl|rfl|rfl|rfl|rfl|rfl|rfl|rfl<;>decide
 have b5:bits .or .i64 0 5=5:=rfl;have b3:bits .or .i64 0 3=3:=rfl;unfold pG plV
 by_cases ho:P.ov=true
 ·simp only[if_pos ho]
  unfold ovV;rw[b5]
  rcases qt hk with hf|hf|hf
  ·have h3: ¬dK (k:Int)=3:=by omega
   simp only[if_neg h3]
   by_cases hb:aaV wy P.s=true
   ·have hc:dK (k:Int)=1∧aaV wy P.s=true:=⟨hf,hb⟩
    simp only[if_pos hc];have h3:=(fam_one hk).1 hf;exact same_oth hk (c:=3) (by decide) P.s 5 (by simp[iR,h3]) (fun _=>rfl)
   ·have hc: ¬(dK (k:Int)=1∧aaV wy P.s=true):=fun c=>hb c.2
    simp only[if_neg hc];exact same_num hk P.s 5 hp1 (EV hk)
  ·have h3: ¬dK (k:Int)=3:=by omega
   have hc: ¬(dK (k:Int)=1∧aaV wy P.s=true):=fun c=>by omega
   simp only[if_neg h3,if_neg hc];exact same_num hk P.s 5 hp1 (EV hk)
  ·simp only[if_pos hf]
   have h6:6≤k:=by
    revert hf
    rcases bO hk with rfl|rfl|rfl|rfl|rfl|rfl|rfl|rfl<;>decide
   exact same_oth hk (c:=5) (by decide) false 5 (by simp[iR,h6]) (fun c=>by cases c)
 simp only[if_neg ho]
 by_cases hl:P.un=true∧P.p<lsI k
 ·simp only[if_pos hl]
  rw[b3];exact same_oth hk (c:=1) (by decide) false 3 rfl (fun c=>by cases c)
 simp only[if_neg hl];have hfl:bits .or .i64 0 (if P.ex=true then 0 else if P.un=true then 3 else 1)=(if P.ex=true then 0 else if P.un=true then 3 else 1):=by
  split
  ·rfl
  ·split<;>rfl
 rw[hfl]
 by_cases hd:P.d=0
 ·simp only[if_pos hd]
  rw[hd,h.nil0 hd];have h3:=(fam_one hk).1 (h.plc.nil (by simpa using ho) hd);exact same_oth hk (c:=1) (by decide) P.s _ rfl (fun _=>by simp[Bk];omega)
 ·simp only[if_neg hd]
  exact same_num hk P.s _ hd (h.spot (by simpa using ho) hl hd)
def RV (w:World)(c:Int)(g:Bool)(t:ak)(z:Ending)(w':World):Prop:=
 ∃s,z= .returned (yoV c g t.s s t.e)∧Rd w' .i64 s (Dg.dg 65536 t.n)∧yB w w'
theorem fitted_any (k:Nat)(hk:1≤k∧k≤8)(wy:Int)(hw:1≤wy∧wy≤5)(qs:Bool)(N M:Nat)(E:Int)(no mo:Option Addr)(nc mc:Nat)(w:World)(hN:N≠0)(hM:M≠0)(rN:Rd w .i64 (.slice no (Dg.dg 65536 N).length nc) (Dg.dg 65536 N))(rM:Rd w .i64 (.slice mo (Dg.dg 65536 M).length mc) (Dg.dg 65536 M))
  (lN:bitLen N≤40000) (lM:bitLen M≤40000) (e1: -100000≤E) (e2:E≤100000):
  yC 39 #[yi (k:Int),yrV qs (.slice no (Dg.dg 65536 N).length nc) (.slice mo (Dg.dg 65536 M).length mc) E,yi wy] w (RVF w (plV k wy (cI (rdN k:Int) (dgN k:Int) (lsI k) (gsI k) (decide (k≤3)) qs N M E wy)).1 (plV k wy (cI (rdN k:Int) (dgN k:Int) (lsI k) (gsI k) (decide (k≤3)) qs N M E wy)).2.1 (plV k wy (cI (rdN k:Int) (dgN k:Int) (lsI k) (gsI k) (decide (k≤3)) qs N M E wy)).2.2.1 (plV k wy (cI (rdN k:Int) (dgN k:Int) (lsI k) (gsI k) (decide (k≤3)) qs N M E wy)).2.2.2):=by
 obtain⟨-,-,-,-,-,-,-,-,-,-,-,hg⟩:=eR hk;have key: ∀L:Nat,40000≤16*L→ ∀{x:Nat},bitLen x≤40000→(Dg.dg 65536 x).length≤L:=fun L hL {x} h=>by
  refine Dg.dg_len_le 65536 x L (by omega) ?_;rw[show(65536:Nat)=2^16 from rfl,←Nat.pow_mul]
  exact wZ (Nat.le_trans h hL)
 have hlen: ∀{x:Nat},bitLen x≤40000→(Dg.dg 65536 x).length≤20000:=fun {x} h=>key 20000 (by omega) h
 have hy:iC wy=true:=by unfold iC;simpa using hw
 refine(acs (k:Int) _ _ _ (rdN k:Int) (dgN k:Int) (lsI k) (gsI k) _ _ wy E _ (decide (k≤3)) _ _ qs N M no mo nc mc (cI (rdN k:Int) (dgN k:Int) (lsI k) (gsI k) (decide (k≤3)) qs N M E wy) _ w (fun w1=>form_any k hk w1) (fun w1 b=>KU _ _ _ _ _ qs no nc mo mc N M E wy w1 hg hy (rN.l b) (rM.l b) (hlen lN) (hlen lM) hN hM e1 e2 (by omega) (by omega)) (fun po pc w1 h=>placed_any k hk wy hw _ (rnd_of hk qs N M E wy hN hM).plc po pc w1 h)).mono (fun z w' h=>h.near)
def nthV (k:Nat)(fl:Int):Int×Bool×ak×Int:=(AZ (dK (k:Int)),false,⟨false,0,0⟩,fl)
theorem same_off {k:Nat}(hk:1≤k∧k≤8)(way fl:Int):SameV k (m8 k way (AZ (dK (k:Int))) false ⟨false,0,0⟩ fl) (nthV k fl):=by
 unfold m8 nthV;rw[if_neg (show¬AZ (dK (k:Int))=2 from fun h=>vN (k:=k) (fl:=0) h)]
 have key: ∀c:Nat,AZ (dK (k:Int))=(c:Int)→(c=1∨c=3∨c=4∨c=5)→iR k c=true→SameV k (Dw k (c:Int) false 0 0 fl) ((c:Int),false,⟨false,0,0⟩,fl):=fun c _ hc hs=>same_oth hk hc false fl hs (fun c=>by cases c)
 rcases qt hk with hf|hf|hf
 ·have e:AZ (dK (k:Int))=((4:Nat):Int):=by rw[hf];rfl
  rw[e,if_neg (by decide)];exact key 4 e (by decide) (by have:=(fam_one hk).1 hf;simp[iR,this])
 ·have e:AZ (dK (k:Int))=((1:Nat):Int):=by rw[hf];rfl
  rw[e,if_pos (by decide)];exact key 1 e (by decide) rfl
 ·have e:AZ (dK (k:Int))=((5:Nat):Int):=by rw[hf];rfl
  rw[e,if_neg (by decide)];have h6:6≤k:=by
   revert hf
   rcases bO hk with rfl|rfl|rfl|rfl|rfl|rfl|rfl|rfl<;>decide
  exact key 5 e (by decide) (by simp[iR,h6])
theorem same_inf {k:Nat}(hk:1≤k∧k≤8)(h3:k≤3)(way:Int)(g:Bool)(t:ak)(fl:Int):SameV k (m8 k way 3 g t fl) (3,g,⟨false,0,0⟩,fl):=by
 unfold m8;rw[if_neg (by decide),if_neg (by decide)];exact same_oth hk (c:=3) (by decide) g fl (by simp[iR,h3]) (fun _=>rfl)
theorem same_nil {k:Nat}(hk:1≤k∧k≤8)(way:Int)(g:Bool)(t:ak)(fl:Int):SameV k (m8 k way 1 g t fl) (1,g&&decide (dK (k:Int)=1),⟨false,0,0⟩,fl):=by
 unfold m8;rw[if_neg (by decide),if_pos rfl];refine same_oth hk (c:=1) (by decide) _ fl rfl (fun h=> ?_)
 have:=(fam_one hk).1 (of_decide_eq_true (Bool.and_eq_true_iff.1 h).2);simp[Bk];omega
theorem same_fit {k:Nat}(hk:1≤k∧k≤8)(way:Int)(g:Bool)(t:ak)(h0:t.n≠0):SameV k (m8 k way 2 g t 0) (plV k way (fY k way t)):=by
 unfold m8;rw[if_pos rfl];exact same_plc hk way _ (rnd_of hk t.s t.n 1 t.e way h0 (by omega))
theorem lost_any (k:Nat)(hk:1≤k∧k≤8)(w:World):yC 59 #[yi (k:Int)] w (RVF w (AZ (dK (k:Int))) false ⟨false,0,0⟩ 16):=
 aen (k:Int) _ w (fun w1=>refNothing_any k hk w1)
theorem off_row (k:Nat)(hk:1≤k∧k≤8)(cl:List Int)(pb:Nat)(w:World)(hm:cl.length≤3)(hc: ∀(i:Nat) c,cl[i]? =some c→w.cell? ⟨pb,i*5,none⟩=some (yi c)):
  ((∀c∈cl,c≤3)→yC 58 #[yi (k:Int),.slice (some ⟨pb,0,none⟩) cl.length cl.length] w (yR w (.tuple #[yoV 0 false false (.slice none 0 0) 0,yi 0,.bool false])))∧
  ((∃j c,0≤j∧cl[j]? =some c∧4≤c)→yC 58 #[yi (k:Int),.slice (some ⟨pb,0,none⟩) cl.length cl.length] w (yR w (.tuple #[yoV (AZ (dK (k:Int))) false false (.slice none 0 0) 0,yi (if dK (k:Int)=3 then 16 else 0),.bool true]))):=by
 have HF:=fun w1=>form_any k hk w1
 have HN:=fun w1=>refNothing_any k hk w1
 refine⟨fun h=>aey _ _ _ _ _ _ _ _ _ _ _ cl pb w hm hc h HF,fun h=> ?_⟩
 by_cases hf:dK (k:Int)=3
 ·rw[if_pos hf]
  rw[hf] at HF;exact aez _ _ _ _ _ _ _ _ _ _ _ cl pb w hm hc h HF HN
 ·rw[if_neg hf]
  exact aff _ _ _ _ _ _ _ _ _ _ _ _ cl pb w hm hc (by simpa using hf) h HF HN
theorem aal (n c e wt:Int)(g:Bool)(t:ak)(so:Option Addr)(sc:Nat)(w:World)(he:(e==0)=false):
  yC 21 #[yi n,.string ⟨#[]⟩,yi 0,yi e,yi e,yEV c g t so sc,yi wt] w (yR w (.bool true)):=by
 obtain⟨W3,hW4,q1,b2⟩:=cA w (yEL c g t so sc) 32;replace hW4:Hid _:=hW4;clear q1
 go_enter func21,ntmps21
 go_upto_region 1 with fail
 rw[hW4.out];clear hW4
 go_wp2
 go_ret
 exact⟨by simp,b2⟩
theorem way_is {way:Int}:iC way=true↔1≤way∧way≤5:=by
 unfold iC;simp
theorem rec_wrong {n way:Int}{ps:List ByteArray}(f:Int×Bool×ak×Int)(h:CK n way ps≠0):jV n way ps f=(⟨#[]⟩,0,CK n way ps):=by
 unfold CK at h⊢;unfold jV
 by_cases hf:dK n=0
 ·rw[if_pos hf,if_pos hf]
 rw[if_neg hf] at h⊢;rw[if_neg hf]
 by_cases he:fT n ps=0
 ·rw[if_pos he] at h⊢
  rw[if_neg (fun c=>c he)]
  cases hw:iC way
  ·rw[if_pos (by
    have: ¬(1≤way∧way≤5):=fun c=>by rw[way_is.2 c] at hw;cases hw
    omega)]
   rfl
  ·rw[hw] at h
   exact absurd rfl h
 ·rw[if_neg he,if_pos he]
theorem opn_right {n way:Int}{ps:List ByteArray}(h:CK n way ps=0): ∃k:Nat,(1≤k∧k≤8)∧n=(k:Int)∧dK n≠0∧fT n ps=0∧1≤way∧way≤5:=by
 unfold CK at h
 by_cases hf:dK n=0
 ·rw[if_pos hf] at h
  exact absurd h (by decide)
 rw[if_neg hf] at h;obtain⟨k1,k2,k3⟩:=fF hf;refine⟨n.toNat,⟨k1,k2⟩,k3.symm,hf, ?_⟩
 by_cases he:fT n ps=0
 ·rw[if_pos he] at h
  cases hw:iC way
  ·rw[hw] at h
   exact absurd h (by decide)
  ·exact⟨he,way_is.1 hw⟩
 ·rw[if_neg he] at h
  exact absurd h he
theorem rec_right {k:Nat}{way:Int}{ps:List ByteArray}(f:Int×Bool×ak×Int)(hf:dK (k:Int)≠0)(he:fT (k:Int) ps=0)(hw:1≤way∧way≤5):jV (k:Int) way ps f=if ps.any (dO (k:Int))=true then m8 k way (AZ (dK (k:Int))) false ⟨false,0,0⟩ (if dK (k:Int)=1 then 0 else 16) else m8 k way f.1 f.2.1 f.2.2.1 f.2.2.2:=by
 unfold jV;rw[if_neg hf,if_neg (by omega),if_neg (by omega),Int.toNat_natCast]
theorem open_err {n way:Int}{ps:List ByteArray}(h:CK n way ps≠0)(hm:ps.length≤3)(pb:Nat)(w:World)(hl:au w pb 9 (ps.map Value.string)):yC 18 #[yi n,yi way,.slice (some ⟨pb,0,none⟩) ps.length ps.length] w (yR w (.tuple #[.slice none 0 0,yi (CK n way ps)])):=
 (Qc n way ps pb w hl hm).mono (fun z w' h2=>by
  rcases h2 with⟨e,-⟩| ⟨-,e,b⟩
  ·exact absurd e h
  ·exact⟨e,b⟩)
theorem open_ok {n way:Int}{ps:List ByteArray}(h:CK n way ps=0)(hm:ps.length≤3)(h0:ps≠[])(pb:Nat)(w:World)(hl:au w pb 9 (ps.map Value.string)):yC 18 #[yi n,yi way,.slice (some ⟨pb,0,none⟩) ps.length ps.length] w fun z w'=> ∃gb cap,z= .returned (.tuple #[.slice (some ⟨gb,0,none⟩) ps.length cap,yi 0])∧ab5 w' n ps gb cap∧yB w w':=
 (Qc n way ps pb w hl hm).mono (fun z w' h2=>by
  rcases h2 with⟨-,v,cs,e,ho,hat,b⟩| ⟨e,-⟩
  ·obtain⟨g,cap,rfl,hv⟩:=ab6 h0 ho hat
   exact⟨g,cap,e,hv,b⟩
  ·exact absurd h e)
def RefOf (k:Nat)(wy:Int)(cx cy:Int)(gx gy:Bool)(x y:ak)(F:Nat)(v:Int×Bool×ak×Int):Prop:=
 ∀xo xc yo yc w,Rd w .i64 (.slice xo (Dg.dg 65536 x.n).length xc) (Dg.dg 65536 x.n)→Rd w .i64 (.slice yo (Dg.dg 65536 y.n).length yc) (Dg.dg 65536 y.n)→yC F #[yi (k:Int),yEV cx gx x xo xc,yEV cy gy y yo yc,yi wy] w (RVF w v.1 v.2.1 v.2.2.1 v.2.2.2)
theorem off_pair (k:Nat)(hk:1≤k∧k≤8)(cx cy:Int)(gx gy sx sy:Bool)(vx vy:Value)(ex ey:Int)(pb:Nat)(w:World)(hl:au w pb 32 [yi cx,.bool gx,.bool sx,vx,yi ex,yi cy,.bool gy,.bool sy,vy,yi ey]):
  (cx≤3∧cy≤3→yC 58 #[yi (k:Int),.slice (some ⟨pb,0,none⟩) 2 2] w (yR w (.tuple #[yoV 0 false false (.slice none 0 0) 0,yi 0,.bool false])))∧
  (¬(cx≤3∧cy≤3)→yC 58 #[yi (k:Int),.slice (some ⟨pb,0,none⟩) 2 2] w (yR w (.tuple #[yoV (AZ (dK (k:Int))) false false (.slice none 0 0) 0,yi (if dK (k:Int)=3 then 16 else 0),.bool true]))):=by
 have hc: ∀(i:Nat) c,[cx,cy][i]? =some c→w.cell? ⟨pb,i*5,none⟩=some (yi c):=fun i c h=>by
  rcases i with- | - |i
  ·obtain rfl:cx=c:=by simpa using h
   exact hl.c 0 rfl
  ·obtain rfl:cy=c:=by simpa using h
   exact hl.c 5 rfl
  ·simp at h
 obtain⟨h1,h2⟩:=off_row k hk [cx,cy] pb w (by simp) hc;refine⟨fun h=>h1 (fun c hc=>by
  rcases List.mem_cons.1 hc with rfl|hc
  ·exact h.1
  ·rw[List.mem_singleton.1 hc]
   exact h.2),fun h=>h2 ?_⟩
 by_cases c:cx≤3
 ·exact⟨1,cy,by omega,rfl,by omega⟩
 ·exact⟨0,cx,by omega,rfl,by omega⟩
theorem noNum_any {k:Nat}{a b:ByteArray}(ha:dF (k:Int) a=0)(hb:dF (k:Int) b=0):[a,b].any (dO (k:Int))=decide (¬(((bM (k:Int) a:Nat):Int)≤3∧((bM (k:Int) b:Nat):Int)≤3)):=by
 have h1:=zl ha;have h2:=zl hb;simp only[List.any_cons,List.any_nil,Bool.or_false];unfold dO;rw[Bool.eq_iff_iff];simp;omega
theorem hex_num {k:Nat}(hk:1≤k∧k≤8)(hf:dK (k:Int)=2){a:ByteArray}(ha:dF (k:Int) a=0):bM (k:Int) a≤2:=by
 have h45: ¬k≤3∧k≤5:=by
  revert hf
  rcases bO hk with rfl|rfl|rfl|rfl|rfl|rfl|rfl|rfl<;>decide
 unfold bM;rw[if_pos ha,Int.toNat_natCast];unfold dh;rw[if_neg h45.1,if_pos h45.2]
 split<;>omega
theorem inf_few {k:Nat}{a:ByteArray}(ha:dF (k:Int) a=0)(h:bM (k:Int) a=3):k≤3:=by
 refine Decidable.byContradiction fun h3=> ?_
 revert h
 unfold bM;rw[if_pos ha,Int.toNat_natCast];unfold dh;rw[if_neg h3]
 split
 ·split<;>omega
 ·split
  ·split<;>omega
  ·omega
theorem pair_pay {k:Nat}(hk:1≤k∧k≤8){way:Int}{a b:ByteArray}(hw:1≤way∧way≤5)(he:fT (k:Int) [a,b]=0)(hf:dK (k:Int)≠0)(f:Int×Bool×ak×Int)(F:Nat){cx cy:Int}{gx gy:Bool}{x y:ak}(hcx:((bM (k:Int) a:Nat):Int)=cx)(hcy:((bM (k:Int) b:Nat):Int)=cy)
  (HOff: ∀c fl xo xc yo yc w,(∀pb w1,au w1 pb 32 (yXL cx gx x xo xc cy gy y yo yc)→yC 58 #[yi (k:Int),.slice (some ⟨pb,0,none⟩) 2 2] w1 (yR w1 (.tuple #[yoV c false false (.slice none 0 0) 0,yi fl,.bool true])))→yC F #[yi (k:Int),yEV cx gx x xo xc,yEV cy gy y yo yc,yi way] w (RVF w c false ⟨false,0,0⟩ fl))
  (HNum:cx≤3∧cy≤3→ ∃v,RefOf k way cx cy gx gy x y F v∧SameV k (m8 k way f.1 f.2.1 f.2.2.1 f.2.2.2) v):
  ∃v,RefOf k way cx cy gx gy x y F v∧SameV k (jV (k:Int) way [a,b] f) v:=by
 have ha:=eU he a (by simp);have hb:=eU he b (by simp);rw[rec_right f hf he hw,noNum_any ha hb,hcx,hcy]
 by_cases h3:cx≤3∧cy≤3
 ·rw[if_neg (by rw[decide_eq_false (fun c=>c h3)];decide)]
  exact HNum h3
 ·rw[if_pos (decide_eq_true h3)]
  have hfl:(if dK (k:Int)=1 then(0:Int) else 16)=if dK (k:Int)=3 then 16 else 0:=by
   rcases qt hk with h|h|h
   ·rw[if_pos h,if_neg (by omega)]
   ·exfalso
    have:=hex_num hk h ha;have:=hex_num hk h hb;omega
   ·rw[if_neg (by omega),if_pos h]
  rw[hfl];exact⟨nthV k (if dK (k:Int)=3 then 16 else 0),fun xo xc yo yc w _ _=>HOff _ _ xo xc yo yc w (fun pb w1 hl=>(off_pair k hk _ _ _ _ _ _ _ _ _ _ pb w1 hl).2 h3),same_off hk way _⟩
theorem pat_ok {k:Nat}{r:ByteArray×Int×Int}{v:Int×Bool×ak×Int}(h:SameV k r v)(so:Option Addr)(sc:Nat)(w:World)(hr:Rd w .i64 (.slice so (Dg.dg 65536 v.2.2.1.n).length sc) (Dg.dg 65536 v.2.2.1.n)):yC 21 #[yi (k:Int),.string r.1,yi r.2.1,yi r.2.2,yi 0,yoV v.1 v.2.1 v.2.2.1.s (.slice so (Dg.dg 65536 v.2.2.1.n).length sc) v.2.2.1.e,yi v.2.2.2] w (yR w (.bool true)):=by
 obtain⟨h1,h2,h3⟩:=h;rw[h1,h2];exact aaY (k:Int) _ _ _ v.2.2.1 so sc r.1 w (fun w1 b=>h3 so sc w1 (hr.l b))
theorem acA (n f0 f1 f2 R D L G:Int)(gr ok ng:Bool)(w:World)(HF:yJ 35 #[yi n] (.tuple #[.agg #[yi f0,yi f1,yi f2,yi R,yi D,yi L,yi G,.bool gr,yi 1],.bool ok])):
  yC 70 #[yi n,.bool ng] w (RVF w 3 ng ⟨false,0,0⟩ 8):=by
 replace HF:Hid _:=HF;obtain⟨W3,hW4,q1,b2⟩:=cA w (yoL 0 false false (.slice none 0 0) 0) 32;replace hW4:Hid _:=hW4
 go_enter func70,ntmps70
 go_upto_region 1 with fail
 rw[hW4.out];clear hW4
 go_wp2_with fail
 refine(HF.out _).mono ?_;rintro zz w5 ⟨rfl,bb6⟩;have q7:=q1.l bb6;have b8:=aa b2 bb6;clear q1 b2 bb6 HF;obtain⟨W12,hW11,q10,al9⟩:=cA w5 [yi f0,yi f1,yi f2,yi R,yi D,yi L,yi G,.bool gr,yi 1] 58;replace hW11:Hid _:=hW11;have hl13:w.heap.size≤w5.heap.size:=b8.size;have q14:=q7.l al9;have b15:=aa b8 al9;clear q7 b8 al9
 go_upto_region 2 with fail
 rw[hW11.out];clear hW11;have c16:=q10.c 8 rfl;have hf:=dL (P:=Tryz.prog) q14 b15 (by omega) underlying32 rfl (by kernel_rfl) (yi 3) (.bool ng) (.bool false) (.slice none 0 0) (yi 0);have HH:Hid (_∧_):=⟨hf.1,hf.2.1⟩;obtain⟨⟨z0,z1,z2,z3,z4⟩,y0,y1,y2,y3,y4⟩:=dN q14;clear hf q14 q10 b15
 go_wp2
 obtain⟨hl,bR⟩:=HH.out;exact bodyPost_ret (aj results70 rfl rfl hl) rfl ⟨_,rfl,aN _ _,bR⟩
theorem acB (t:ak)(n f0 f1 f2 R D L G:Int)(gr ok ng:Bool)(w:World)(HF:yJ 35 #[yi n] (.tuple #[.agg #[yi f0,yi f1,yi f2,yi R,yi D,yi L,yi G,.bool gr,yi 2],.bool ok]))
  (HG: ∀w1,yC 130 #[yi n,.bool ng] w1 (RV w1 2 ng t)):
  yC 70 #[yi n,.bool ng] w (RVF w 2 ng t 8):=by
 replace HF:Hid _:=HF;replace HG:Hid _:=HG;obtain⟨W3,hW4,q1,b2⟩:=cA w (yoL 0 false false (.slice none 0 0) 0) 32;replace hW4:Hid _:=hW4
 go_enter func70,ntmps70
 go_upto_region 1 with fail
 rw[hW4.out];clear hW4
 go_wp2_with fail
 refine(HF.out _).mono ?_;rintro zz w5 ⟨rfl,bb6⟩;have q7:=q1.l bb6;have b8:=aa b2 bb6;clear q1 b2 bb6 HF;obtain⟨W12,hW11,q10,al9⟩:=cA w5 [yi f0,yi f1,yi f2,yi R,yi D,yi L,yi G,.bool gr,yi 2] 58;replace hW11:Hid _:=hW11;have hl13:w.heap.size≤w5.heap.size:=b8.size;have q14:=q7.l al9;have b15:=aa b8 al9;clear q7 b8 al9
 go_upto_region 2 with fail
 rw[hW11.out];clear hW11;have c16:=q10.c 8 rfl
 go_wp2_with fail
 refine(HG.out _).mono ?_;rintro zz w17 ⟨v119,rfl,r120,bb18⟩;have q21:=q14.l bb18;have b22:=aa b15 bb18;obtain⟨so,sc,hv⟩:=r120.shape;subst hv;clear q14 q10 b15 bb18 HG c16;have hf:=dL (P:=Tryz.prog) q21 b22 (by omega) underlying32 rfl (by kernel_rfl) (yi 2) (.bool ng) (.bool t.s) (.slice so (Dg.dg 65536 t.n).length sc) (yi t.e);have HH:Hid (_∧_∧_):=⟨hf.1,hf.2.2.rd r120 (mu r120 q21),hf.2.1⟩;obtain⟨⟨z0,z1,z2,z3,z4⟩,y0,y1,y2,y3,y4⟩:=dN q21;clear hf q21 r120 b22
 go_wp2
 obtain⟨hl,rRs,bR⟩:=HH.out;exact bodyPost_ret (aj results70 rfl rfl hl) rfl ⟨_,rfl,rRs,bR⟩
theorem acC (c:Int)(n f0 f1 f2 R D L G:Int)(gr ok ng:Bool)(w:World)(HF:yJ 35 #[yi n] (.tuple #[.agg #[yi f0,yi f1,yi f2,yi R,yi D,yi L,yi G,.bool gr,yi 3],.bool ok]))
  (HN:yJ 117 #[yi n] (yoV c false false (.slice none 0 0) 0)):
  yC 70 #[yi n,.bool ng] w (RVF w c false ⟨false,0,0⟩ 8):=by
 replace HF:Hid _:=HF;replace HN:Hid _:=HN;obtain⟨W3,hW4,q1,b2⟩:=cA w (yoL 0 false false (.slice none 0 0) 0) 32;replace hW4:Hid _:=hW4
 go_enter func70,ntmps70
 go_upto_region 1 with fail
 rw[hW4.out];clear hW4
 go_wp2_with fail
 refine(HF.out _).mono ?_;rintro zz w5 ⟨rfl,bb6⟩;have q7:=q1.l bb6;have b8:=aa b2 bb6;clear q1 b2 bb6 HF;obtain⟨W12,hW11,q10,al9⟩:=cA w5 [yi f0,yi f1,yi f2,yi R,yi D,yi L,yi G,.bool gr,yi 3] 58;replace hW11:Hid _:=hW11;have hl13:w.heap.size≤w5.heap.size:=b8.size;have q14:=q7.l al9;have b15:=aa b8 al9;clear q7 b8 al9
 go_upto_region 2 with fail
 rw[hW11.out];clear hW11;have c16:=q10.c 8 rfl
 go_wp2_with fail
 refine(HN.out _).mono ?_;rintro zz w17 ⟨rfl,bb18⟩;have q19:=q14.l bb18;have b20:=aa b15 bb18;clear q14 q10 b15 bb18 HN c16;have hf:=dL (P:=Tryz.prog) q19 b20 (by omega) underlying32 rfl (by kernel_rfl) (yi c) (.bool false) (.bool false) (.slice none 0 0) (yi 0);have HH:Hid (_∧_):=⟨hf.1,hf.2.1⟩;obtain⟨⟨z0,z1,z2,z3,z4⟩,y0,y1,y2,y3,y4⟩:=dN q19;clear hf q19 b20
 go_wp2
 obtain⟨hl,bR⟩:=HH.out;exact bodyPost_ret (aj results70 rfl rfl hl) rfl ⟨_,rfl,aN _ _,bR⟩
theorem abC (cx cy c fl:Int)(n wy:Int)(gx gy:Bool)(x y:ak)(xo yo:Option Addr)(xc yc:Nat)(w:World)(HO: ∀pb w1,au w1 pb 32 (yXL cx gx x xo xc cy gy y yo yc)→yC 58 #[yi n,.slice (some ⟨pb,0,none⟩) 2 2] w1 (yR w1 (.tuple #[yoV c false false (.slice none 0 0) 0,yi fl,.bool true]))):
  yC 27 #[yi n,yEV cx gx x xo xc,yEV cy gy y yo yc,yi wy] w (RVF w c false ⟨false,0,0⟩ fl):=by
 replace HO:Hid _:=HO;obtain⟨W5,hW6,q1,q2,q3,b4⟩:=lG w (yEL cx gx x xo xc) 32 (yEL cy gy y yo yc) 32 (yoL 0 false false (.slice none 0 0) 0) 32;replace hW6:Hid _:=hW6
 go_enter func27,ntmps27
 go_upto_region 1 with fail
 rw[hW6.out];clear hW6;obtain⟨c7,c8,c9,c10,c11⟩:=q1.cs5;obtain⟨c12,c13,c14,c15,c16⟩:=q2.cs5;have al17:=af W5 (.cells #[yi cx,.bool gx,.bool x.s,.slice xo (Dg.dg 65536 x.n).length xc,yi x.e,yi cy,.bool gy,.bool y.s,.slice yo (Dg.dg 65536 y.n).length yc,yi y.e] 32);have q18:=ah W5 (yXL cx gx x xo xc cy gy y yo yc) 32;have q19:=q3.l al17;have b20:=aa b4 al17
 go_wp2_with fail
 refine(HO.out _ _ q18).mono ?_;rintro zz w21 ⟨rfl,bb22⟩;have q23:=q19.l bb22;have b24:=aa b20 bb22;clear q19 q18 b20 bb22 HO c7 c8 c9 c10 c11 c12 c13 c14 c15 c16 q1 q2 q3 b4 al17;obtain⟨W28,hW27,q26,al25⟩:=cA w21 (yoL c false false (.slice none 0 0) 0) 32;replace hW27:Hid _:=hW27;have hl29:w.heap.size≤w21.heap.size:=b24.size;have hl30:=q23.lt;have q31:=q23.l al25;have b32:=aa b24 al25;clear q23 b24 al25
 go_upto_region 2 with fail
 rw[hW27.out];clear hW27;obtain⟨c33,c34,c35,c36,c37⟩:=q26.cs5;have hf:=dL (P:=Tryz.prog) q31 b32 (by omega) underlying32 rfl (by kernel_rfl) (yi c) (.bool false) (.bool false) (.slice none 0 0) (yi 0);have HH:Hid (_∧_):=⟨hf.1,hf.2.1⟩;obtain⟨⟨z0,z1,z2,z3,z4⟩,y0,y1,y2,y3,y4⟩:=dN q31;clear hf q31 q26 b32
 go_wp2
 obtain⟨hl,bR⟩:=HH.out;exact bodyPost_ret (aj results27 rfl rfl hl) rfl ⟨_,rfl,aN _ _,bR⟩
theorem abD (c:Int)(n wy:Int)(gx gy:Bool)(x y:ak)(xo yo:Option Addr)(xc yc:Nat)(w:World)(HO: ∀pb w1,au w1 pb 32 (yXL 3 gx x xo xc 3 gy y yo yc)→yC 58 #[yi n,.slice (some ⟨pb,0,none⟩) 2 2] w1 (yR w1 (.tuple #[yoV 0 false false (.slice none 0 0) 0,yi 0,.bool false])))
  (HL: ∀w1,yC 59 #[yi n] w1 (RVF w1 c false ⟨false,0,0⟩ 16)):
  yC 27 #[yi n,yEV 3 gx x xo xc,yEV 3 gy y yo yc,yi wy] w (RVF w c false ⟨false,0,0⟩ 16):=by
 replace HO:Hid _:=HO;replace HL:Hid _:=HL;obtain⟨W5,hW6,q1,q2,q3,b4⟩:=lG w (yEL 3 gx x xo xc) 32 (yEL 3 gy y yo yc) 32 (yoL 0 false false (.slice none 0 0) 0) 32;replace hW6:Hid _:=hW6
 go_enter func27,ntmps27
 go_upto_region 1 with fail
 rw[hW6.out];clear hW6;obtain⟨c7,c8,c9,c10,c11⟩:=q1.cs5;obtain⟨c12,c13,c14,c15,c16⟩:=q2.cs5;have al17:=af W5 (.cells #[yi 3,.bool gx,.bool x.s,.slice xo (Dg.dg 65536 x.n).length xc,yi x.e,yi 3,.bool gy,.bool y.s,.slice yo (Dg.dg 65536 y.n).length yc,yi y.e] 32);have q18:=ah W5 (yXL 3 gx x xo xc 3 gy y yo yc) 32;have q19:=q1.l al17;have q20:=q2.l al17;have q21:=q3.l al17;have b22:=aa b4 al17
 go_wp2_with fail
 refine(HO.out _ _ q18).mono ?_;rintro zz w23 ⟨rfl,bb24⟩;have q25:=q19.l bb24;have q26:=q20.l bb24;have q27:=q21.l bb24;have b28:=aa b22 bb24;clear q19 q20 q21 q18 b22 bb24 HO c7 c8 c9 c10 c11 c12 c13 c14 c15 c16 q1 q2 q3 b4 al17;obtain⟨W32,hW31,q30,al29⟩:=cA w23 (yoL 0 false false (.slice none 0 0) 0) 32;replace hW31:Hid _:=hW31;have hl33:w.heap.size≤w23.heap.size:=b28.size;have hl34:=q26.lt;have hl35:=q27.lt;have q36:=q25.l al29;have q37:=q26.l al29;have q38:=q27.l al29;have b39:=aa b28 al29;clear q25 q26 q27 b28 al29 q30
 go_upto_region 2 with fail
 rw[hW31.out];clear hW31;have c40:=q36.c 0 rfl;have c41:=q36.c 1 rfl;have c42:=q37.c 0 rfl;have c43:=q37.c 1 rfl
 go_wp2_with fail
 refine(HL.out _).mono ?_;rintro zz w44 ⟨v146,rfl,r147,bb45⟩;have q48:=q38.l bb45;have b49:=aa b39 bb45;obtain⟨so,sc,hv⟩:=r147.shape;subst hv;clear q36 q37 q38 b39 bb45 HL c40 c41 c42 c43;have hf:=dL (P:=Tryz.prog) q48 b49 (by omega) underlying32 rfl (by kernel_rfl) (yi c) (.bool false) (.bool false) (.slice so (Dg.dg 65536 0).length sc) (yi 0);have HH:Hid (_∧_∧_):=⟨hf.1,hf.2.2.rd r147 (mu r147 q48),hf.2.1⟩;obtain⟨⟨z0,z1,z2,z3,z4⟩,y0,y1,y2,y3,y4⟩:=dN q48;clear hf q48 r147 b49
 go_wp2
 obtain⟨hl,rRs,bR⟩:=HH.out;exact bodyPost_ret (aj results27 rfl rfl hl) rfl ⟨_,rfl,rRs,bR⟩
theorem abE (c:Int)(n wy:Int)(gx gy:Bool)(x y:ak)(xo yo:Option Addr)(xc yc:Nat)(w:World)(HO: ∀pb w1,au w1 pb 32 (yXL 1 gx x xo xc 1 gy y yo yc)→yC 58 #[yi n,.slice (some ⟨pb,0,none⟩) 2 2] w1 (yR w1 (.tuple #[yoV 0 false false (.slice none 0 0) 0,yi 0,.bool false])))
  (HL: ∀w1,yC 59 #[yi n] w1 (RVF w1 c false ⟨false,0,0⟩ 16)):
  yC 27 #[yi n,yEV 1 gx x xo xc,yEV 1 gy y yo yc,yi wy] w (RVF w c false ⟨false,0,0⟩ 16):=by
 replace HO:Hid _:=HO;replace HL:Hid _:=HL;obtain⟨W5,hW6,q1,q2,q3,b4⟩:=lG w (yEL 1 gx x xo xc) 32 (yEL 1 gy y yo yc) 32 (yoL 0 false false (.slice none 0 0) 0) 32;replace hW6:Hid _:=hW6
 go_enter func27,ntmps27
 go_upto_region 1 with fail
 rw[hW6.out];clear hW6;obtain⟨c7,c8,c9,c10,c11⟩:=q1.cs5;obtain⟨c12,c13,c14,c15,c16⟩:=q2.cs5;have al17:=af W5 (.cells #[yi 1,.bool gx,.bool x.s,.slice xo (Dg.dg 65536 x.n).length xc,yi x.e,yi 1,.bool gy,.bool y.s,.slice yo (Dg.dg 65536 y.n).length yc,yi y.e] 32);have q18:=ah W5 (yXL 1 gx x xo xc 1 gy y yo yc) 32;have q19:=q1.l al17;have q20:=q2.l al17;have q21:=q3.l al17;have b22:=aa b4 al17
 go_wp2_with fail
 refine(HO.out _ _ q18).mono ?_;rintro zz w23 ⟨rfl,bb24⟩;have q25:=q19.l bb24;have q26:=q20.l bb24;have q27:=q21.l bb24;have b28:=aa b22 bb24;clear q19 q20 q21 q18 b22 bb24 HO c7 c8 c9 c10 c11 c12 c13 c14 c15 c16 q1 q2 q3 b4 al17;obtain⟨W32,hW31,q30,al29⟩:=cA w23 (yoL 0 false false (.slice none 0 0) 0) 32;replace hW31:Hid _:=hW31;have hl33:w.heap.size≤w23.heap.size:=b28.size;have hl34:=q26.lt;have hl35:=q27.lt;have q36:=q25.l al29;have q37:=q26.l al29;have q38:=q27.l al29;have b39:=aa b28 al29;clear q25 q26 q27 b28 al29 q30
 go_upto_region 2 with fail
 rw[hW31.out];clear hW31;have c40:=q36.c 0 rfl;have c41:=q36.c 1 rfl;have c42:=q37.c 0 rfl;have c43:=q37.c 1 rfl
 go_wp2_with fail
 refine(HL.out _).mono ?_;rintro zz w44 ⟨v146,rfl,r147,bb45⟩;have q48:=q38.l bb45;have b49:=aa b39 bb45;obtain⟨so,sc,hv⟩:=r147.shape;subst hv;clear q36 q37 q38 b39 bb45 HL c40 c41 c42 c43;have hf:=dL (P:=Tryz.prog) q48 b49 (by omega) underlying32 rfl (by kernel_rfl) (yi c) (.bool false) (.bool false) (.slice so (Dg.dg 65536 0).length sc) (yi 0);have HH:Hid (_∧_∧_):=⟨hf.1,hf.2.2.rd r147 (mu r147 q48),hf.2.1⟩;obtain⟨⟨z0,z1,z2,z3,z4⟩,y0,y1,y2,y3,y4⟩:=dN q48;clear hf q48 r147 b49
 go_wp2
 obtain⟨hl,rRs,bR⟩:=HH.out;exact bodyPost_ret (aj results27 rfl rfl hl) rfl ⟨_,rfl,rRs,bR⟩
theorem abF (cy:Int)(n wy:Int)(gx gy:Bool)(x y:ak)(xo yo:Option Addr)(xc yc:Nat)(w:World)(hy3:(cy==3)=false)(HO: ∀pb w1,au w1 pb 32 (yXL 3 gx x xo xc cy gy y yo yc)→yC 58 #[yi n,.slice (some ⟨pb,0,none⟩) 2 2] w1 (yR w1 (.tuple #[yoV 0 false false (.slice none 0 0) 0,yi 0,.bool false]))):
  yC 27 #[yi n,yEV 3 gx x xo xc,yEV cy gy y yo yc,yi wy] w (RVF w 3 (gx != gy) ⟨false,0,0⟩ 0):=by
 replace HO:Hid _:=HO;obtain⟨W5,hW6,q1,q2,q3,b4⟩:=lG w (yEL 3 gx x xo xc) 32 (yEL cy gy y yo yc) 32 (yoL 0 false false (.slice none 0 0) 0) 32;replace hW6:Hid _:=hW6
 go_enter func27,ntmps27
 go_upto_region 1 with fail
 rw[hW6.out];clear hW6;obtain⟨c7,c8,c9,c10,c11⟩:=q1.cs5;obtain⟨c12,c13,c14,c15,c16⟩:=q2.cs5;have al17:=af W5 (.cells #[yi 3,.bool gx,.bool x.s,.slice xo (Dg.dg 65536 x.n).length xc,yi x.e,yi cy,.bool gy,.bool y.s,.slice yo (Dg.dg 65536 y.n).length yc,yi y.e] 32);have q18:=ah W5 (yXL 3 gx x xo xc cy gy y yo yc) 32;have q19:=q1.l al17;have q20:=q2.l al17;have q21:=q3.l al17;have b22:=aa b4 al17
 go_wp2_with fail
 refine(HO.out _ _ q18).mono ?_;rintro zz w23 ⟨rfl,bb24⟩;have q25:=q19.l bb24;have q26:=q20.l bb24;have q27:=q21.l bb24;have b28:=aa b22 bb24;clear q19 q20 q21 q18 b22 bb24 HO c7 c8 c9 c10 c11 c12 c13 c14 c15 c16 q1 q2 q3 b4 al17;obtain⟨W32,hW31,q30,al29⟩:=cA w23 (yoL 0 false false (.slice none 0 0) 0) 32;replace hW31:Hid _:=hW31;have hl33:w.heap.size≤w23.heap.size:=b28.size;have hl34:=q26.lt;have hl35:=q27.lt;have q36:=q25.l al29;have q37:=q26.l al29;have q38:=q27.l al29;have b39:=aa b28 al29;clear q25 q26 q27 b28 al29 q30
 go_upto_region 2 with fail
 rw[hW31.out];clear hW31;have c40:=q36.c 0 rfl;have c41:=q36.c 1 rfl;have c42:=q37.c 0 rfl;have c43:=q37.c 1 rfl;have hf:=dL (P:=Tryz.prog) q38 b39 (by omega) underlying32 rfl (by kernel_rfl) (yi 3) (.bool (gx != gy)) (.bool false) (.slice none 0 0) (yi 0);have HH:Hid (_∧_):=⟨hf.1,hf.2.1⟩;obtain⟨⟨z0,z1,z2,z3,z4⟩,y0,y1,y2,y3,y4⟩:=dN q38;clear hf q36 q37 q38 b39
 go_wp2
 obtain⟨hl,bR⟩:=HH.out;exact bodyPost_ret (aj results27 rfl rfl hl) rfl ⟨_,rfl,aN _ _,bR⟩
theorem abG (zg:Bool)(n wy:Int)(gx gy:Bool)(x y:ak)(xo yo:Option Addr)(xc yc:Nat)(w:World)(HO: ∀pb w1,au w1 pb 32 (yXL 1 gx x xo xc 3 gy y yo yc)→yC 58 #[yi n,.slice (some ⟨pb,0,none⟩) 2 2] w1 (yR w1 (.tuple #[yoV 0 false false (.slice none 0 0) 0,yi 0,.bool false])))
  (HZ:yJ 38 #[yi n,.bool (gx != gy)] (yoV 1 zg false (.slice none 0 0) 0)):
  yC 27 #[yi n,yEV 1 gx x xo xc,yEV 3 gy y yo yc,yi wy] w (RVF w 1 zg ⟨false,0,0⟩ 0):=by
 replace HO:Hid _:=HO;replace HZ:Hid _:=HZ;obtain⟨W5,hW6,q1,q2,q3,b4⟩:=lG w (yEL 1 gx x xo xc) 32 (yEL 3 gy y yo yc) 32 (yoL 0 false false (.slice none 0 0) 0) 32;replace hW6:Hid _:=hW6
 go_enter func27,ntmps27
 go_upto_region 1 with fail
 rw[hW6.out];clear hW6;obtain⟨c7,c8,c9,c10,c11⟩:=q1.cs5;obtain⟨c12,c13,c14,c15,c16⟩:=q2.cs5;have al17:=af W5 (.cells #[yi 1,.bool gx,.bool x.s,.slice xo (Dg.dg 65536 x.n).length xc,yi x.e,yi 3,.bool gy,.bool y.s,.slice yo (Dg.dg 65536 y.n).length yc,yi y.e] 32);have q18:=ah W5 (yXL 1 gx x xo xc 3 gy y yo yc) 32;have q19:=q1.l al17;have q20:=q2.l al17;have q21:=q3.l al17;have b22:=aa b4 al17
 go_wp2_with fail
 refine(HO.out _ _ q18).mono ?_;rintro zz w23 ⟨rfl,bb24⟩;have q25:=q19.l bb24;have q26:=q20.l bb24;have q27:=q21.l bb24;have b28:=aa b22 bb24;clear q19 q20 q21 q18 b22 bb24 HO c7 c8 c9 c10 c11 c12 c13 c14 c15 c16 q1 q2 q3 b4 al17;obtain⟨W32,hW31,q30,al29⟩:=cA w23 (yoL 0 false false (.slice none 0 0) 0) 32;replace hW31:Hid _:=hW31;have hl33:w.heap.size≤w23.heap.size:=b28.size;have hl34:=q26.lt;have hl35:=q27.lt;have q36:=q25.l al29;have q37:=q26.l al29;have q38:=q27.l al29;have b39:=aa b28 al29;clear q25 q26 q27 b28 al29 q30
 go_upto_region 2 with fail
 rw[hW31.out];clear hW31;have c40:=q36.c 0 rfl;have c41:=q36.c 1 rfl;have c42:=q37.c 0 rfl;have c43:=q37.c 1 rfl
 go_wp2_with fail
 refine(HZ.out _).mono ?_;rintro zz w44 ⟨rfl,bb45⟩;have q46:=q38.l bb45;have b47:=aa b39 bb45;clear q36 q37 q38 b39 bb45 HZ c40 c41 c42 c43;have hf:=dL (P:=Tryz.prog) q46 b47 (by omega) underlying32 rfl (by kernel_rfl) (yi 1) (.bool zg) (.bool false) (.slice none 0 0) (yi 0);have HH:Hid (_∧_):=⟨hf.1,hf.2.1⟩;obtain⟨⟨z0,z1,z2,z3,z4⟩,y0,y1,y2,y3,y4⟩:=dN q46;clear hf q46 b47
 go_wp2
 obtain⟨hl,bR⟩:=HH.out;exact bodyPost_ret (aj results27 rfl rfl hl) rfl ⟨_,rfl,aN _ _,bR⟩
theorem abH (cx:Int)(zg:Bool)(n wy:Int)(gx gy:Bool)(x y:ak)(xo yo:Option Addr)(xc yc:Nat)(w:World)(hx3:(cx==3)=false)(hx1:(cx==1)=false)(HO: ∀pb w1,au w1 pb 32 (yXL cx gx x xo xc 3 gy y yo yc)→yC 58 #[yi n,.slice (some ⟨pb,0,none⟩) 2 2] w1 (yR w1 (.tuple #[yoV 0 false false (.slice none 0 0) 0,yi 0,.bool false])))
  (HZ:yJ 38 #[yi n,.bool (gx != gy)] (yoV 1 zg false (.slice none 0 0) 0)):
  yC 27 #[yi n,yEV cx gx x xo xc,yEV 3 gy y yo yc,yi wy] w (RVF w 1 zg ⟨false,0,0⟩ 0):=by
 replace HO:Hid _:=HO;replace HZ:Hid _:=HZ;obtain⟨W5,hW6,q1,q2,q3,b4⟩:=lG w (yEL cx gx x xo xc) 32 (yEL 3 gy y yo yc) 32 (yoL 0 false false (.slice none 0 0) 0) 32;replace hW6:Hid _:=hW6
 go_enter func27,ntmps27
 go_upto_region 1 with fail
 rw[hW6.out];clear hW6;obtain⟨c7,c8,c9,c10,c11⟩:=q1.cs5;obtain⟨c12,c13,c14,c15,c16⟩:=q2.cs5;have al17:=af W5 (.cells #[yi cx,.bool gx,.bool x.s,.slice xo (Dg.dg 65536 x.n).length xc,yi x.e,yi 3,.bool gy,.bool y.s,.slice yo (Dg.dg 65536 y.n).length yc,yi y.e] 32);have q18:=ah W5 (yXL cx gx x xo xc 3 gy y yo yc) 32;have q19:=q1.l al17;have q20:=q2.l al17;have q21:=q3.l al17;have b22:=aa b4 al17
 go_wp2_with fail
 refine(HO.out _ _ q18).mono ?_;rintro zz w23 ⟨rfl,bb24⟩;have q25:=q19.l bb24;have q26:=q20.l bb24;have q27:=q21.l bb24;have b28:=aa b22 bb24;clear q19 q20 q21 q18 b22 bb24 HO c7 c8 c9 c10 c11 c12 c13 c14 c15 c16 q1 q2 q3 b4 al17;obtain⟨W32,hW31,q30,al29⟩:=cA w23 (yoL 0 false false (.slice none 0 0) 0) 32;replace hW31:Hid _:=hW31;have hl33:w.heap.size≤w23.heap.size:=b28.size;have hl34:=q26.lt;have hl35:=q27.lt;have q36:=q25.l al29;have q37:=q26.l al29;have q38:=q27.l al29;have b39:=aa b28 al29;clear q25 q26 q27 b28 al29 q30
 go_upto_region 2 with fail
 rw[hW31.out];clear hW31;have c40:=q36.c 0 rfl;have c41:=q36.c 1 rfl;have c42:=q37.c 0 rfl;have c43:=q37.c 1 rfl
 go_wp2_with fail
 refine(HZ.out _).mono ?_;rintro zz w44 ⟨rfl,bb45⟩;have q46:=q38.l bb45;have b47:=aa b39 bb45;clear q36 q37 q38 b39 bb45 HZ c40 c41 c42 c43;have hf:=dL (P:=Tryz.prog) q46 b47 (by omega) underlying32 rfl (by kernel_rfl) (yi 1) (.bool zg) (.bool false) (.slice none 0 0) (yi 0);have HH:Hid (_∧_):=⟨hf.1,hf.2.1⟩;obtain⟨⟨z0,z1,z2,z3,z4⟩,y0,y1,y2,y3,y4⟩:=dN q46;clear hf q46 b47
 go_wp2
 obtain⟨hl,bR⟩:=HH.out;exact bodyPost_ret (aj results27 rfl rfl hl) rfl ⟨_,rfl,aN _ _,bR⟩
theorem abI (cy:Int)(zg:Bool)(n wy:Int)(gx gy:Bool)(x y:ak)(xo yo:Option Addr)(xc yc:Nat)(w:World)(hy3:(cy==3)=false)(hy1:(cy==1)=false)(HO: ∀pb w1,au w1 pb 32 (yXL 1 gx x xo xc cy gy y yo yc)→yC 58 #[yi n,.slice (some ⟨pb,0,none⟩) 2 2] w1 (yR w1 (.tuple #[yoV 0 false false (.slice none 0 0) 0,yi 0,.bool false])))
  (HZ:yJ 38 #[yi n,.bool (gx != gy)] (yoV 1 zg false (.slice none 0 0) 0)):
  yC 27 #[yi n,yEV 1 gx x xo xc,yEV cy gy y yo yc,yi wy] w (RVF w 1 zg ⟨false,0,0⟩ 0):=by
 replace HO:Hid _:=HO;replace HZ:Hid _:=HZ;obtain⟨W5,hW6,q1,q2,q3,b4⟩:=lG w (yEL 1 gx x xo xc) 32 (yEL cy gy y yo yc) 32 (yoL 0 false false (.slice none 0 0) 0) 32;replace hW6:Hid _:=hW6
 go_enter func27,ntmps27
 go_upto_region 1 with fail
 rw[hW6.out];clear hW6;obtain⟨c7,c8,c9,c10,c11⟩:=q1.cs5;obtain⟨c12,c13,c14,c15,c16⟩:=q2.cs5;have al17:=af W5 (.cells #[yi 1,.bool gx,.bool x.s,.slice xo (Dg.dg 65536 x.n).length xc,yi x.e,yi cy,.bool gy,.bool y.s,.slice yo (Dg.dg 65536 y.n).length yc,yi y.e] 32);have q18:=ah W5 (yXL 1 gx x xo xc cy gy y yo yc) 32;have q19:=q1.l al17;have q20:=q2.l al17;have q21:=q3.l al17;have b22:=aa b4 al17
 go_wp2_with fail
 refine(HO.out _ _ q18).mono ?_;rintro zz w23 ⟨rfl,bb24⟩;have q25:=q19.l bb24;have q26:=q20.l bb24;have q27:=q21.l bb24;have b28:=aa b22 bb24;clear q19 q20 q21 q18 b22 bb24 HO c7 c8 c9 c10 c11 c12 c13 c14 c15 c16 q1 q2 q3 b4 al17;obtain⟨W32,hW31,q30,al29⟩:=cA w23 (yoL 0 false false (.slice none 0 0) 0) 32;replace hW31:Hid _:=hW31;have hl33:w.heap.size≤w23.heap.size:=b28.size;have hl34:=q26.lt;have hl35:=q27.lt;have q36:=q25.l al29;have q37:=q26.l al29;have q38:=q27.l al29;have b39:=aa b28 al29;clear q25 q26 q27 b28 al29 q30
 go_upto_region 2 with fail
 rw[hW31.out];clear hW31;have c40:=q36.c 0 rfl;have c41:=q36.c 1 rfl;have c42:=q37.c 0 rfl;have c43:=q37.c 1 rfl
 go_wp2_with fail
 refine(HZ.out _).mono ?_;rintro zz w44 ⟨rfl,bb45⟩;have q46:=q38.l bb45;have b47:=aa b39 bb45;clear q36 q37 q38 b39 bb45 HZ c40 c41 c42 c43;have hf:=dL (P:=Tryz.prog) q46 b47 (by omega) underlying32 rfl (by kernel_rfl) (yi 1) (.bool zg) (.bool false) (.slice none 0 0) (yi 0);have HH:Hid (_∧_):=⟨hf.1,hf.2.1⟩;obtain⟨⟨z0,z1,z2,z3,z4⟩,y0,y1,y2,y3,y4⟩:=dN q46;clear hf q46 b47
 go_wp2
 obtain⟨hl,bR⟩:=HH.out;exact bodyPost_ret (aj results27 rfl rfl hl) rfl ⟨_,rfl,aN _ _,bR⟩
theorem aav (cx c fl:Int)(g:Bool)(t:ak)(n wy:Int)(gx gy:Bool)(x y:ak)(xo yo:Option Addr)(xc yc:Nat)(w:World)(hx3:(cx==3)=false)(hx1:(cx==1)=false)(HO: ∀pb w1,au w1 pb 32 (yXL cx gx x xo xc 1 gy y yo yc)→yC 58 #[yi n,.slice (some ⟨pb,0,none⟩) 2 2] w1 (yR w1 (.tuple #[yoV 0 false false (.slice none 0 0) 0,yi 0,.bool false])))
  (HP: ∀w1,yC 70 #[yi n,.bool (gx != gy)] w1 (RVF w1 c g t fl)):
  yC 27 #[yi n,yEV cx gx x xo xc,yEV 1 gy y yo yc,yi wy] w (RVF w c g t fl):=by
 replace HO:Hid _:=HO;replace HP:Hid _:=HP;obtain⟨W5,hW6,q1,q2,q3,b4⟩:=lG w (yEL cx gx x xo xc) 32 (yEL 1 gy y yo yc) 32 (yoL 0 false false (.slice none 0 0) 0) 32;replace hW6:Hid _:=hW6
 go_enter func27,ntmps27
 go_upto_region 1 with fail
 rw[hW6.out];clear hW6;obtain⟨c7,c8,c9,c10,c11⟩:=q1.cs5;obtain⟨c12,c13,c14,c15,c16⟩:=q2.cs5;have al17:=af W5 (.cells #[yi cx,.bool gx,.bool x.s,.slice xo (Dg.dg 65536 x.n).length xc,yi x.e,yi 1,.bool gy,.bool y.s,.slice yo (Dg.dg 65536 y.n).length yc,yi y.e] 32);have q18:=ah W5 (yXL cx gx x xo xc 1 gy y yo yc) 32;have q19:=q1.l al17;have q20:=q2.l al17;have q21:=q3.l al17;have b22:=aa b4 al17
 go_wp2_with fail
 refine(HO.out _ _ q18).mono ?_;rintro zz w23 ⟨rfl,bb24⟩;have q25:=q19.l bb24;have q26:=q20.l bb24;have q27:=q21.l bb24;have b28:=aa b22 bb24;clear q19 q20 q21 q18 b22 bb24 HO c7 c8 c9 c10 c11 c12 c13 c14 c15 c16 q1 q2 q3 b4 al17;obtain⟨W32,hW31,q30,al29⟩:=cA w23 (yoL 0 false false (.slice none 0 0) 0) 32;replace hW31:Hid _:=hW31;have hl33:w.heap.size≤w23.heap.size:=b28.size;have hl34:=q26.lt;have hl35:=q27.lt;have q36:=q25.l al29;have q37:=q26.l al29;have q38:=q27.l al29;have b39:=aa b28 al29;clear q25 q26 q27 b28 al29 q30
 go_upto_region 2 with fail
 rw[hW31.out];clear hW31;have c40:=q36.c 0 rfl;have c41:=q36.c 1 rfl;have c42:=q37.c 0 rfl;have c43:=q37.c 1 rfl
 go_wp2_with fail
 refine(HP.out _).mono ?_;rintro zz w44 ⟨v146,rfl,r147,bb45⟩;have q48:=q38.l bb45;have b49:=aa b39 bb45;obtain⟨so,sc,hv⟩:=r147.shape;subst hv;clear q36 q37 q38 b39 bb45 HP c40 c41 c42 c43;have hf:=dL (P:=Tryz.prog) q48 b49 (by omega) underlying32 rfl (by kernel_rfl) (yi c) (.bool g) (.bool t.s) (.slice so (Dg.dg 65536 t.n).length sc) (yi t.e);have HH:Hid (_∧_∧_):=⟨hf.1,hf.2.2.rd r147 (mu r147 q48),hf.2.1⟩;obtain⟨⟨z0,z1,z2,z3,z4⟩,y0,y1,y2,y3,y4⟩:=dN q48;clear hf q48 r147 b49
 go_wp2
 obtain⟨hl,rRs,bR⟩:=HH.out;exact bodyPost_ret (aj results27 rfl rfl hl) rfl ⟨_,rfl,rRs,bR⟩
theorem abJ (cx cy c fl E:Int)(g:Bool)(t:ak)(n wy:Int)(gx gy:Bool)(x y:ak)(xo yo:Option Addr)(xc yc:Nat)(w:World)(hx3:(cx==3)=false)(hy3:(cy==3)=false)(hx1:(cx==1)=false)(hy1:(cy==1)=false)(hE:IntKind.i64.wrap (x.e-y.e)=E)(HO: ∀pb w1,au w1 pb 32 (yXL cx gx x xo xc cy gy y yo yc)→yC 58 #[yi n,.slice (some ⟨pb,0,none⟩) 2 2] w1 (yR w1 (.tuple #[yoV 0 false false (.slice none 0 0) 0,yi 0,.bool false])))
  (HT: ∀w1,yB w w1→yC 39 #[yi n,yrV (gx != gy) (.slice xo (Dg.dg 65536 x.n).length xc) (.slice yo (Dg.dg 65536 y.n).length yc) E,yi wy] w1 (RVF w1 c g t fl)):
  yC 27 #[yi n,yEV cx gx x xo xc,yEV cy gy y yo yc,yi wy] w (RVF w c g t fl):=by
 replace HO:Hid _:=HO;replace HT:Hid _:=HT;obtain⟨W5,hW6,q1,q2,q3,b4⟩:=lG w (yEL cx gx x xo xc) 32 (yEL cy gy y yo yc) 32 (yoL 0 false false (.slice none 0 0) 0) 32;replace hW6:Hid _:=hW6
 go_enter func27,ntmps27
 go_upto_region 1 with fail
 rw[hW6.out];clear hW6;obtain⟨c7,c8,c9,c10,c11⟩:=q1.cs5;obtain⟨c12,c13,c14,c15,c16⟩:=q2.cs5;have al17:=af W5 (.cells #[yi cx,.bool gx,.bool x.s,.slice xo (Dg.dg 65536 x.n).length xc,yi x.e,yi cy,.bool gy,.bool y.s,.slice yo (Dg.dg 65536 y.n).length yc,yi y.e] 32);have q18:=ah W5 (yXL cx gx x xo xc cy gy y yo yc) 32;have q19:=q1.l al17;have q20:=q2.l al17;have q21:=q3.l al17;have b22:=aa b4 al17
 go_wp2_with fail
 refine(HO.out _ _ q18).mono ?_;rintro zz w23 ⟨rfl,bb24⟩;have q25:=q19.l bb24;have q26:=q20.l bb24;have q27:=q21.l bb24;have b28:=aa b22 bb24;clear q19 q20 q21 q18 b22 bb24 HO c7 c8 c9 c10 c11 c12 c13 c14 c15 c16 q1 q2 q3 b4 al17;obtain⟨W32,hW31,q30,al29⟩:=cA w23 (yoL 0 false false (.slice none 0 0) 0) 32;replace hW31:Hid _:=hW31;have hl33:w.heap.size≤w23.heap.size:=b28.size;have hl34:=q26.lt;have hl35:=q27.lt;have q36:=q25.l al29;have q37:=q26.l al29;have q38:=q27.l al29;have b39:=aa b28 al29;clear q25 q26 q27 b28 al29 q30
 go_upto_region 2 with fail
 rw[hW31.out];clear hW31;have c40:=q36.c 0 rfl;have c41:=q36.c 1 rfl;have c42:=q36.c 3 rfl;have c43:=q36.c 4 rfl;have c44:=q37.c 0 rfl;have c45:=q37.c 1 rfl;have c46:=q37.c 3 rfl;have c47:=q37.c 4 rfl
 go_wp2_with fail
 refine(HT.out _ b39).mono ?_;rintro zz w48 ⟨v150,rfl,r151,bb49⟩;have q52:=q38.l bb49;have b53:=aa b39 bb49;obtain⟨so,sc,hv⟩:=r151.shape;subst hv;clear q36 q37 q38 b39 bb49 HT c40 c41 c42 c43 c44 c45 c46 c47;have hf:=dL (P:=Tryz.prog) q52 b53 (by omega) underlying32 rfl (by kernel_rfl) (yi c) (.bool g) (.bool t.s) (.slice so (Dg.dg 65536 t.n).length sc) (yi t.e);have HH:Hid (_∧_∧_):=⟨hf.1,hf.2.2.rd r151 (mu r151 q52),hf.2.1⟩;obtain⟨⟨z0,z1,z2,z3,z4⟩,y0,y1,y2,y3,y4⟩:=dN q52;clear hf q52 r151 b53
 go_wp2
 obtain⟨hl,rRs,bR⟩:=HH.out;exact bodyPost_ret (aj results27 rfl rfl hl) rfl ⟨_,rfl,rRs,bR⟩
theorem aaA (e:Int)(n wy f1 e1:Int)(sa sb st:ByteArray)(w:World)(he:(e==0)=false)
  (HA:yH w 26 #[yi n,.string sa,.string sb,yi wy] (.tuple #[.string st,yi f1,yi e1]))
  (HO: ∀pb w1,au w1 pb 9 [.string sa,.string sb]→yC 18 #[yi n,yi wy,.slice (some ⟨pb,0,none⟩) 2 2] w1 (yR w1 (.tuple #[.slice none 0 0,yi e])))
  (HB:yH w 20 #[] (.bool true))
  (HI:yH w 21 #[yi n,.string st,yi f1,yi e1,yi e,yoV 0 false false (.slice none 0 0) 0,yi 0] (.bool true)):
  yC 6 #[yi n,.string sa,.string sb,yi wy] w (yR w (.bool true)):=by
 replace HA:Hid _:=HA;replace HO:Hid _:=HO;replace HB:Hid _:=HB;replace HI:Hid _:=HI
 go_enter func6,ntmps6
 have b0:=Below.refl w.heap.size w
 go_wp2_with fail
 refine(HA.out _ b0).mono ?_;rintro zz w1 ⟨rfl,bb2⟩;have b3:=aa b0 bb2;clear b0 bb2 HA;have al4:=af w1 (.cells #[.string sa,.string sb] 9);have q5:=ah w1 [.string sa,.string sb] 9;have b6:=aa b3 al4
 go_wp2_with fail
 refine(HO.out _ _ q5).mono ?_;rintro zz w7 ⟨rfl,bb8⟩;have b9:=aa b6 bb8;clear q5 b6 bb8 HO b3 al4;obtain⟨W13,hW12,q11,al10⟩:=cA w7 (yoL 0 false false (.slice none 0 0) 0) 32;replace hW12:Hid _:=hW12;have hl14:w.heap.size≤w7.heap.size:=b9.size;have b15:=aa b9 al10;clear b9 al10
 go_upto_region 4 with fail
 rw[hW12.out];clear hW12
 go_wp2_with fail
 refine(HB.out _ b15).mono ?_;rintro zz w16 ⟨rfl,bb17⟩;have q18:=q11.l bb17;have b19:=aa b15 bb17;clear q11 b15 bb17 HB;obtain⟨c20,c21,c22,c23,c24⟩:=q18.cs5
 go_wp2_with fail
 refine(HI.out _ b19).mono ?_;rintro zz w25 ⟨rfl,bb26⟩;have b27:=aa b19 bb26;clear q18 b19 bb26 HI c20 c21 c22 c23 c24
 go_wp2
 go_ret
 exact⟨by simp,b27⟩
theorem ab3 (cx cy c fl:Int)(gx gy g:Bool)(x y t:ak)(n wy f1 e1:Int)(sa sb st:ByteArray)(w:World)
  (HA:yH w 26 #[yi n,.string sa,.string sb,yi wy] (.tuple #[.string st,yi f1,yi e1]))
  (HO: ∀pb w1,au w1 pb 9 [.string sa,.string sb]→yC 18 #[yi n,yi wy,.slice (some ⟨pb,0,none⟩) 2 2] w1 fun zz w'=> ∃gb cap xo xc yo yc,zz= .returned (.tuple #[.slice (some ⟨gb,0,none⟩) 2 cap,yi 0])∧w'.rangeAt gb 0 (yEL cx gx x xo xc)∧w'.rangeAt gb 5 (yEL cy gy y yo yc)∧Rd w' .i64 (.slice xo (Dg.dg 65536 x.n).length xc) (Dg.dg 65536 x.n)∧Rd w' .i64 (.slice yo (Dg.dg 65536 y.n).length yc) (Dg.dg 65536 y.n)∧yB w1 w')
  (HR: ∀xo xc yo yc w1,yB w w1→Rd w1 .i64 (.slice xo (Dg.dg 65536 x.n).length xc) (Dg.dg 65536 x.n)→Rd w1 .i64 (.slice yo (Dg.dg 65536 y.n).length yc) (Dg.dg 65536 y.n)→yC 27 #[yi n,yEV cx gx x xo xc,yEV cy gy y yo yc,yi wy] w1 (RVF w1 c g t fl))
  (HB:yH w 20 #[] (.bool true))
  (HI: ∀so sc w1,yB w w1→Rd w1 .i64 (.slice so (Dg.dg 65536 t.n).length sc) (Dg.dg 65536 t.n)→yC 21 #[yi n,.string st,yi f1,yi e1,yi 0,yEV c g t so sc,yi fl] w1 (yR w1 (.bool true))):
  yC 6 #[yi n,.string sa,.string sb,yi wy] w (yR w (.bool true)):=by
 replace HA:Hid _:=HA;replace HO:Hid _:=HO;replace HR:Hid _:=HR;replace HB:Hid _:=HB;replace HI:Hid _:=HI
 go_enter func6,ntmps6
 have b0:=Below.refl w.heap.size w
 go_wp2_with fail
 refine(HA.out _ b0).mono ?_;rintro zz w1 ⟨rfl,bb2⟩;have b3:=aa b0 bb2;clear b0 bb2 HA;have al4:=af w1 (.cells #[.string sa,.string sb] 9);have q5:=ah w1 [.string sa,.string sb] 9;have b6:=aa b3 al4
 go_wp2_with fail
 refine(HO.out _ _ q5).mono ?_;rintro zz w7 ⟨gb,cap,xo,xc,yo,yc,rfl,h0,h1,rx9,ry10,bb8⟩;have b11:=aa b6 bb8;clear q5 b6 bb8 HO b3 al4;obtain⟨W15,hW14,q13,al12⟩:=cA w7 (yoL 0 false false (.slice none 0 0) 0) 32;replace hW14:Hid _:=hW14;have hl16:w.heap.size≤w7.heap.size:=b11.size;have hl17:=World.block_lt_of_cell? _ _ (h0 0 _ rfl);have q18:=aC h0 al12;have q19:=aC h1 al12;have r20:=rx9.l al12;have r21:=ry10.l al12;have b22:=aa b11 al12;clear h0 h1 rx9 ry10 b11 al12
 go_upto_region 4 with fail
 rw[hW14.out];clear hW14
 go_upto_region 6 with fail
 have bW23:yB W15 W15.drew:=(Below.refl _ _).drew;have q24:=aC q18 bW23;have q25:=aC q19 bW23;have q26:=q13.l bW23;have r27:=r20.l bW23;have r28:=r21.l bW23;have b29:=aa b22 bW23;clear q18 q19 q13 r20 r21 b22 bW23;refine wp_region_held_drew (S:=fun wq=>wq.rangeAt gb 0 (yEL cx gx x xo xc)∧wq.rangeAt gb 5 (yEL cy gy y yo yc)) (by kernel_rfl) ⟨q24,q25⟩ (fun hS0=> ?_)
 generalize W15.drew=WD30 at q24 q25 q26 r27 r28 b29 hS0⊢;refine tk 0 (yi n) rfl (by kernel_rfl) (fun _ _ _ h=>h) (fun _ _=>by kernel_rfl) hS0 ?_
 refine tk 1 (.slice (some ⟨gb,0,none⟩) 2 cap) rfl (by kernel_rfl) (fun _ _ _ h=>h) (fun _ _=>by kernel_rfl) hS0 ?_
 refine tk 2 (.pointer (some ⟨gb,0,none⟩)) rfl (by kernel_rfl) (fun _ _ _ h=>h) (fun _ _=>by kernel_rfl) hS0 ?_
 refine tk 3 (yEV cx gx x xo xc) rfl (by kernel_rfl) (fun _ _ _ h=>h) (fun _ hw0=>fy 32 (.tmp 39) rfl gb 0 (by kernel_rfl) _ _ hw0.1 underlying32 rfl (by kernel_rfl)) hS0 ?_
 refine tk 4 (.slice (some ⟨gb,0,none⟩) 2 cap) rfl (by kernel_rfl) (fun _ _ _ h=>h) (fun _ _=>by kernel_rfl) hS0 ?_
 refine tk 5 (.pointer (some ⟨gb,5,none⟩)) rfl (by kernel_rfl) (fun _ _ _ h=>h) (fun _ _=>by kernel_rfl) hS0 ?_
 refine tk 6 (yEV cy gy y yo yc) rfl (by kernel_rfl) (fun _ _ _ h=>h) (fun _ hw0=>fy 32 (.tmp 42) rfl gb 5 (by kernel_rfl) _ _ hw0.2 underlying32 rfl (by kernel_rfl)) hS0 ?_
 refine tk 7 (yi wy) rfl (by kernel_rfl) (fun _ _ _ h=>h) (fun _ _=>by kernel_rfl) hS0 ?_
 refine wpAnyH_ready (rs:=[8]) (by kernel_rfl) (by simp) ?_;refine AllReadyH.cons rfl (fun K hK=> ?_) AllReadyH.nil
 go_simp
 refine(HR.out _ _ _ _ _ b29 r27 r28).mono ?_;rintro zz w31 ⟨v133,rfl,r134,bb32⟩;have q35:=aC q24 bb32;have q36:=aC q25 bb32;have q37:=q26.l bb32;have b38:=aa b29 bb32;obtain⟨so,sc,hv⟩:=r134.shape;subst hv;clear q24 q25 q26 r27 r28 b29 bb32 HR;refine hK.out _ _ ⟨q35,q36⟩ (fun hS39=> ?_)
 clear hK K;refine tk 9 (.tuple #[yEV c g t so sc,yi fl]) rfl (by kernel_rfl) (fun _ _ _ h=>h) (fun _ _=>by kernel_rfl) hS39 ?_
 refine tk 10 (yEV c g t so sc) rfl (by kernel_rfl) (fun _ _ _ h=>h) (fun _ _=>by go_simp) hS39 ?_
 refine tk 11 (yi fl) rfl (by kernel_rfl) (fun _ _ _ h=>h) (fun _ _=>by go_simp) hS39 ?_
 refine wpAnyH_ready (rs:=[12]) (by kernel_rfl) (by simp) ?_;refine AllReadyH.cons rfl (fun K hK=> ?_) AllReadyH.nil
 have bu:But w7.heap.size w31 (w31.setCells w7.heap.size 0 (yEL c g t so sc)):=de _ _ _ _;have hth:w31.there w7.heap.size 0 5:=dD q37;have q40:au (w31.setCells w7.heap.size 0 (yEL c g t so sc)) w7.heap.size 32 (yEL c g t so sc):=q37.sets _ rfl;have r41:=bu.rd r134 (mu r134 q37);have q42:=dZ bu q35 (by omega);have q43:=dZ bu q36 (by omega);have b44:=bu.below b38 (by omega);rw[if_pos (by kernel_rfl)];refine wp_store_mid 32 (.tmp 14) (.tmp 46) rfl w7.heap.size 0 (yEA c g t so sc) (by kernel_rfl) (by kernel_rfl) hth (by kernel_rfl) (by simp[Value.oneCell']) ?_;refine hK.out _ _ ⟨q42,q43⟩ (fun hS45=> ?_)
 clear hK K;clear q37 r134 q35 q36 b38 bu hth;refine tk 13 (yi fl) rfl (by kernel_rfl) (fun _ _ _ h=>h) (fun _ _=>by kernel_rfl) hS45 ?_
 refine wpAnyH_done (by kernel_rfl) ?_ _;clear hS0 hS39 hS45;change Exit.then _ _ _ _ (World.setCells w31 w7.heap.size 0 (yEL c g t so sc));generalize World.setCells w31 w7.heap.size 0 (yEL c g t so sc)=W46 at q42 q43 q40 r41 b44⊢;simp only[Act.put,List.getElem_toArray,List.getElem_cons_succ,List.getElem_cons_zero,List.setIfInBounds_toArray,List.set_cons_zero,List.set_cons_succ]
 go_wp2_with fail
 refine(HB.out _ b44).mono ?_;rintro zz w47 ⟨rfl,bb48⟩;have q49:=q40.l bb48;have r50:=r41.l bb48;have b51:=aa b44 bb48;clear q42 q43 q40 r41 b44 bb48 HB;obtain⟨c52,c53,c54,c55,c56⟩:=q49.cs5
 go_wp2_with fail
 refine(HI.out _ _ _ b51 r50).mono ?_;rintro zz w57 ⟨rfl,bb58⟩;have b59:=aa b51 bb58;clear q49 r50 b51 bb58 HI c52 c53 c54 c55 c56
 go_wp2
 go_ret
 exact⟨by simp,b59⟩
def Wl (n:Int)(a b:ByteArray):Int×Bool×ak×Int:=wu n.toNat ((bM n a:Nat):Int) (dz n a) (opT n a) ((bM n b:Nat):Int) (dz n b) (opT n b)
theorem Tg {k:Nat}(hk:1≤k∧k≤8){ng:Bool}(h:(EU k ng).1=2):(EU k ng).2.2.1.n≠0∧sH (EU k ng).2.2.1:=by
 obtain⟨f1,f2,f3,f4,f5,f6⟩:=qj (eR hk).2.2.2.2.2.2.2.2.2.2.2 (EV hk);unfold EU at h⊢
 by_cases c1:dK (k:Int)=1
 ·rw[if_pos c1] at h
  simp at h
 rw[if_neg c1] at h⊢
 by_cases c2:dK (k:Int)=2
 ·rw[if_pos c2] at h⊢
  refine xt (sg:=ng) ?_ h;have hb:bitLen (rdN k^dgN k-1)≤32*15:=gf f1;have hp:rdN k^dgN k-1≠0:=by rcases bO hk with rfl|rfl|rfl|rfl|rfl|rfl|rfl|rfl<;>decide
  obtain⟨t1,t2,t3⟩:=gN (t:=⟨ng,rdN k^dgN k-1,(ai (rdN k:Int):Int)*gsI k⟩) hp;refine⟨?_, ?_⟩
  ·rw[t2]
   show-50000≤(ai (rdN k:Int):Int)*gsI k+((tz (rdN k^dgN k-1):Nat):Int)
   omega
  ·rw[t3]
   show(ai (rdN k:Int):Int)*gsI k+((bitLen (rdN k^dgN k-1):Nat):Int)≤50000
   omega
 ·rw[if_neg c2] at h
  exact(vN h).elim
theorem Th {k:Nat}(hk:1≤k∧k≤8){cx cy:Int}{gx gy:Bool}{x y:ak}(hn:sH (cK x y 128))(h:(wu k cx gx x cy gy y).1=2):(wu k cx gx x cy gy y).2.2.1.n≠0∧sH (wu k cx gx x cy gy y).2.2.1:=by
 unfold wu at h⊢
 by_cases c1:cx=3∧cy=3∨cx=1∧cy=1
 ·rw[if_pos c1] at h
  exact(vN h).elim
 rw[if_neg c1] at h⊢
 by_cases c2:cx=3
 ·rw[if_pos c2] at h
  simp at h
 rw[if_neg c2] at h⊢
 by_cases c3:cy=3
 ·rw[if_pos c3] at h
  simp at h
 rw[if_neg c3] at h⊢
 by_cases c4:cy=1
 ·rw[if_pos c4] at h⊢
  exact Tg hk h
 ·rw[if_neg c4] at h⊢
  exact xt hn h
theorem Jx (n way:Int)(a b:ByteArray)(w:World)(hT:Tab w):yC 26 #[yi n,.string a,.string b,yi way] w (mM (jV n way [a,b] (Wl n a b)) w):=by
 refine aeS n way _ _ a b _ w (fun pb w1 b1 hl=> ?_)
 refine nQ n way [a,b] _ _ pb w1 (by simp) (by simp) hl (enter_of func68 (by kernel_rfl) rfl) (hT.l b1) (fun k hk hn he hN=> ?_)
 subst hn;unfold Wl;rw[Int.toNat_natCast];have hpb:=eU he b (by simp);obtain⟨sa,-,-⟩:=ir hk (eU he a (by simp));obtain⟨sb,-,zb⟩:=ir hk hpb;have cb:=zl hpb;have nb:dO (k:Int) b=false:=by
  simp only[List.any_cons,List.any_nil,Bool.or_false,Bool.or_eq_false_iff] at hN;exact hN.2
 have nb': ¬(bM (k:Int) b=4∨bM (k:Int) b=5):=by
  unfold dO at nb;exact of_decide_eq_false nb
 refine⟨fun h=>Th hk (TO sa sb) h,fun g cap w2 b2 h=> ?_⟩
 obtain⟨xo,xc,r0,k0⟩:=h.each 0 a rfl;obtain⟨yo,yc,r1,k1⟩:=h.each 1 b rfl;exact adc _ _ _ _ _ _ _ _ _ _ _ _ _ _ _ _ _ _ _ _ _ _ _ _ w2 r0 r1 (fun w3 b3=>Hg k hk way _ _ _ _ _ _ _ _ _ _ w3 (k0.l b3) (k1.l b3) sa sb (fun h1 h3=>zb (by omega)) ((hT.l b1).l (aa b2 b3)))
def mL (w:World)(b:Nat)(v0 v1 v2 v3 v4 v5:Value):Prop:=
 b<w.heap.size∧(w.cell? ⟨b,0,none⟩=some v0∧w.cell? ⟨b,1,none⟩=some v1∧w.cell? ⟨b,2,none⟩=some v2∧w.cell? ⟨b,3,none⟩=some v3∧w.cell? ⟨b,4,none⟩=some v4∧w.cell? ⟨b,5,none⟩=some v5)∧
  (w.frozen? ⟨b,0,none⟩=false∧w.frozen? ⟨b,1,none⟩=false∧w.frozen? ⟨b,2,none⟩=false∧w.frozen? ⟨b,3,none⟩=false∧w.frozen? ⟨b,4,none⟩=false∧w.frozen? ⟨b,5,none⟩=false)
theorem mL.l {w w':World}{b:Nat}{v0 v1 v2 v3 v4 v5:Value}(h:mL w b v0 v1 v2 v3 v4 v5)(hb:yB w w'):mL w' b v0 v1 v2 v3 v4 v5:=by
 obtain⟨hl,⟨c0,c1,c2,c3,c4,c5⟩,f0,f1,f2,f3,f4,f5⟩:=h;refine⟨Nat.lt_of_lt_of_le hl hb.size,⟨cell_later hb c0,cell_later hb c1,cell_later hb c2,cell_later hb c3,cell_later hb c4,cell_later hb c5⟩, ?_, ?_, ?_, ?_, ?_, ?_⟩
 all_goals rw[hb.frozen (by exact hl)];assumption
end Go.Proofs.YtnhackdjplppjaaGreatDoor

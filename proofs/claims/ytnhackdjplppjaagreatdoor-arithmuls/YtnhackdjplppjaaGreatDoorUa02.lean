/-
  Texts laid together: Ra1, Pa3, Pa4, Oq5, Pa5, Ra2, Ra3, Ga5.
-/
import Derived.Test.YtnhackdjplppjaaGreatDoorUa01
set_option maxRecDepth 100000
set_option maxHeartbeats 3200000
namespace Go.Proofs.YtnhackdjplppjaaGreatDoor
open _root_.Go.Proofs.Tryz
open Go.RowKit
theorem fm_is {k:Nat}(hk:1≤k∧k≤8):((fmN k:Nat):Int)=dK (k:Int):=by
 rcases bO hk with rfl|rfl|rfl|rfl|rfl|rfl|rfl|rfl<;>rfl
theorem form_any (k:Nat)(hk:1≤k∧k≤8)(w:World):yC 35 #[yi (k:Int)] w (yR w (.tuple #[.agg #[yi (szN k:Int),yi (exN k:Int),yi (frN k:Int),yi (rdN k:Int),yi (dgN k:Int),yi (lsI k),yi (gsI k),.bool (decide (k≤3)),yi (dK (k:Int))],.bool true])):=by
 have:=sU k hk w;rw[fm_is hk] at this;exact this
theorem refNothing_any (k:Nat)(hk:1≤k∧k≤8)(w:World):yC 117 #[yi (k:Int)] w (yR w (yoV (AZ (dK (k:Int))) false false (.slice none 0 0) 0)):=by
 have HF:=fun w1=>form_any k hk w1
 rcases qt hk with h|h|h<;>rw[h] at HF⊢
 ·exact aa4 _ _ _ _ _ _ _ _ _ _ w HF
 ·exact aa5 _ _ _ _ _ _ _ _ _ _ w HF
 ·exact aa6 _ _ _ _ _ _ _ _ _ _ w HF
theorem refZero_any (k:Nat)(hk:1≤k∧k≤8)(ng:Bool)(w:World):yC 38 #[yi (k:Int),.bool ng] w (yR w (yoV 1 (ng&&decide (dK (k:Int)=1)) false (.slice none 0 0) 0)):=
 aej _ _ _ _ _ _ _ _ _ _ _ _ w (fun w1=>form_any k hk w1)
theorem refW_any (k:Nat)(hk:1≤k∧k≤8)(D L G:Int)(gr:Bool)(w:World):yC 116 #[ygV (rdN k:Int) D L G gr] w (yR w (yi (ai (rdN k:Int):Int))):=by
 have:=eG (rdN k:Int) D L G gr w;rw[wQ hk] at this;exact this
def gtT (k:Nat)(ng:Bool):ak:=bare ⟨ng,rdN k^dgN k-1,(ai (rdN k:Int):Int)*gsI k⟩
theorem rd_pow {k:Nat}(hk:1≤k∧k≤8):rdN k^dgN k=2^ (ai (rdN k:Int)*dgN k):=by
 rcases bO hk with rfl|rfl|rfl|rfl|rfl|rfl|rfl|rfl<;>rfl
theorem refGreatest_any (k:Nat)(hk:1≤k∧k≤8)(ng:Bool)(w:World):yC 130 #[yi (k:Int),.bool ng] w (RVg w 2 ng (gtT k ng)):=by
 obtain⟨-,-,d1,-,-,-,lg,g2,w64,w4,w1',hg⟩:=eR hk;have hge:(ai (rdN k:Int):Int)*gsI k≤16384∧ -16384≤(ai (rdN k:Int):Int)*gsI k:=by
  rcases bO hk with rfl|rfl|rfl|rfl|rfl|rfl|rfl|rfl<;>decide
 have hL: ∀{x:Nat},x≤2^ (ai (rdN k:Int)*dgN k)→(Dg.dg 65536 x).length≤10:=fun {x} hx=>by
  refine Dg.dg_len_le 65536 _ _ (by omega) (Nat.lt_of_le_of_lt hx ?_);refine Nat.lt_of_le_of_lt (Nat.pow_le_pow_right (by omega) w64) (by decide)
 unfold gtT;rw[rd_pow hk];refine aaB (k:Int) _ _ _ (rdN k:Int) (dgN k:Int) (lsI k) (gsI k) _ (ai (rdN k:Int):Int) ((ai (rdN k:Int)*dgN k:Nat):Int) ((ai (rdN k:Int):Int)*gsI k) _ _ ng (2^ (ai (rdN k:Int)*dgN k)) _ w ?_ ?_ (fun w1=>form_any k hk w1) (fun w1=>refW_any k hk _ _ _ _ w1) (fun w1=>vJ _ (by omega) w1) (fun vo vc q w1 hv hq=> ?_) (fun vo vc w1 hv=> ?_)
 ·rw[←Int.natCast_mul]
  exact IntWalk.i64_in _ ⟨by omega,by omega⟩
 ·exact IntWalk.i64_in _ ⟨by omega,by omega⟩
 ·have hp:1≤2^ (ai (rdN k:Int)*dgN k):=bG _
  have hq1:Rd w1 .i64 (.slice (some ⟨q,0,none⟩) 1 1) [1]:=⟨_,1,rfl,Nat.le_refl _,by unfold maxLen;omega,fun _=>⟨q,0,rfl,fun i hi=>by
   obtain rfl:i=0:=by simpa using hi
   exact hq⟩⟩
  have hne:(Dg.dg 65536 (2^ (ai (rdN k:Int)*dgN k))).length≠0:=fun c=>by
   have:=(Dg.dg_nil_iff 65536 _ (by omega)).1 (List.length_eq_zero_iff.1 c);omega
  have:=kI (.slice vo (Dg.dg 65536 (2^ (ai (rdN k:Int)*dgN k))).length vc) (.slice (some ⟨q,0,none⟩) 1 1) _ [1] w1 hv hq1 (Dg.small_dg _ _ (by omega)) (Dg.small_cons.2 ⟨by omega,Dg.small_nil _ (by omega)⟩) (by have:=hL (Nat.le_refl (2^ (ai (rdN k:Int)*dgN k)));omega) (by simp;omega) (by rw[Dg.vl_dg _ _ (by omega),show Dg.vl 65536 [1]=1 from rfl];exact hp)
  rwa [Dg.vl_dg _ _ (by omega),show Dg.vl 65536 [1]=1 from rfl] at this
 ·exact lA _ ⟨ng,2^ (ai (rdN k:Int)*dgN k)-1,(ai (rdN k:Int):Int)*gsI k⟩ w1 ⟨_,rfl,hv⟩ (by have:=hL (Nat.sub_le (2^ (ai (rdN k:Int)*dgN k)) 1);simp only;omega) (by simp only;omega) (by simp only;omega)
def plV (k:Nat)(wy:Int)(P:fz):Int×Bool×ak×Int:=
 if P.ov=true then(if dK (k:Int)=3 then(5,false,⟨false,0,0⟩,5) else if dK (k:Int)=1∧aaV wy P.s=true then(3,P.s,⟨false,0,0⟩,5) else(2,P.s,gtT k P.s,5))
 else if P.un=true∧P.p<lsI k then(1,false,⟨false,0,0⟩,3)
 else if P.d=0 then(1,P.s,⟨false,0,0⟩,if P.ex=true then 0 else if P.un=true then 3 else 1)
 else(2,P.s,bare ⟨P.s,P.d,(ai (rdN k:Int):Int)*P.p⟩,if P.ex=true then 0 else if P.un=true then 3 else 1)
structure Plc (k:Nat) (P:fz):Prop where
 low:dK (k:Int)=1→P.p<lsI k→P.ov=true
 same:dK (k:Int)≠1→P.ov=false→P.un=true→P.ex=true→P.p<lsI k
 nil:P.ov=false→P.d=0→dK (k:Int)=1
 len:(Dg.dg 65536 P.d).length≤100000
 far:P.ov=false→(P.un=true∧P.p<lsI k)∨(-17000≤P.p∧P.p≤17000)
theorem placed_any (k:Nat)(hk:1≤k∧k≤8)(wy:Int)(hw:1≤wy∧wy≤5)(P:fz)(hP:Plc k P)(po:Option Addr)(pc:Nat)(w:World)(hr:Rd w .i64 (.slice po (Dg.dg 65536 P.d).length pc) (Dg.dg 65536 P.d)):
  yC 91 #[yi (k:Int),ypV P.s (.slice po (Dg.dg 65536 P.d).length pc) P.p P.ex P.ov P.un,yi wy] w (RVG w (plV k wy P).1 (plV k wy P).2.1 (plV k wy P).2.2.1 (plV k wy P).2.2.2):=by
 have HF:=fun w1=>form_any k hk w1
 have HN:=fun w1=>refNothing_any k hk w1
 have HG:=fun g w1=>refGreatest_any k hk g w1
 have HZ:=fun g w1=>refZero_any k hk g w1
 have HW:=fun D L G gr w1=>refW_any k hk D L G gr w1
 have wl:=eN (rdN k:Int);obtain⟨h1,h2,h3,h4,h5⟩:=hP;obtain⟨ps,pd,pp,ex,ov,un⟩:=P;simp only at h1 h2 h3 h4 h5 hr;unfold plV;simp only
 cases ov
 ·rw[if_neg (by decide)]
  by_cases hl:un=true∧pp<lsI k
  ·rw[if_pos hl]
   obtain⟨rfl,hl⟩:=hl;have hf:dK (k:Int)≠1:=fun c=>absurd (h1 c hl) (by decide)
   have hf2:1<dK (k:Int):=by rcases qt hk with h|h|h<;>omega
   have hz:(false&&decide (dK (k:Int)=1))=false:=rfl;have HZ':=HZ false;rw[hz] at HZ';exact refPl_low ex false _ _ _ _ _ _ _ _ _ _ _ _ _ _ _ _ _ w (by simpa using hf) hf2 hl HF HZ'
  rw[if_neg hl]
  by_cases hd:pd=0
  ·rw[if_pos hd]
   subst hd;have hf:=h3 rfl rfl;have HZ':=HZ ps;rw[show(ps&&decide (dK (k:Int)=1))=ps from by rw[hf];simp] at HZ'
   rw[hf] at HF
   cases ex<;>cases un
   ·exact aeG ps _ _ _ _ _ _ _ _ _ _ _ _ _ _ _ _ w HF HZ'
   ·exact aeh ps _ _ _ _ _ _ _ _ _ _ _ _ _ _ _ w HF HZ'
   ·exact aeE ps _ _ _ _ _ _ _ _ _ _ _ _ _ _ _ _ w HF HZ'
   ·exact aef ps _ _ _ _ _ _ _ _ _ _ _ _ _ _ _ w HF HZ'
  rw[if_neg hd];have hz:(((Dg.dg 65536 pd).length:Int)==0)=false:=by
   have:(Dg.dg 65536 pd).length≠0:=fun c=>hd ((Dg.dg_nil_iff 65536 _ (by omega)).1 (List.length_eq_zero_iff.1 c))
   simpa using this
  have hpr:=(h5 rfl).resolve_left hl;have hE:IntKind.i64.wrap ((ai (rdN k:Int):Int)*pp)=(ai (rdN k:Int):Int)*pp:=by
   have:=CU (R:=(rdN k:Int)) hpr.1 hpr.2;exact IntWalk.i64_in _ ⟨by omega,by omega⟩
  have HB: ∀w1,yB w w1→yC 79 #[ydV ps (.slice po (Dg.dg 65536 pd).length pc) ((ai (rdN k:Int):Int)*pp)] w1 (di w1 (bare ⟨ps,pd,(ai (rdN k:Int):Int)*pp⟩)):=fun w1 b=>by
   have:=CU (R:=(rdN k:Int)) hpr.1 hpr.2;exact lA _ ⟨ps,pd,(ai (rdN k:Int):Int)*pp⟩ w1 ⟨_,rfl,hr.l b⟩ h4 (by simp only;omega) (by simp only;omega)
  by_cases hf:dK (k:Int)=1
  ·rw[hf] at HF
   cases ex<;>cases un
   ·exact aeH _ _ _ _ _ _ _ _ _ _ _ _ _ _ _ _ _ _ _ _ w hz hE HF (fun w1=>HW _ _ _ _ w1) HB
   ·exact aei _ _ _ _ _ _ _ _ _ _ _ _ _ _ _ _ _ _ _ w hz hE HF (fun w1=>HW _ _ _ _ w1) HB
   ·exact aeF _ _ _ _ _ _ _ _ _ _ _ _ _ _ _ _ _ _ _ _ w hz hE HF (fun w1=>HW _ _ _ _ w1) HB
   ·exact aeg _ _ _ _ _ _ _ _ _ _ _ _ _ _ _ _ _ _ _ w hz hE HF (fun w1=>HW _ _ _ _ w1) HB
  ·have hf2:1<dK (k:Int):=by rcases qt hk with h|h|h<;>omega
   cases ex<;>cases un
   ·exact aeH _ _ _ _ _ _ _ _ _ _ _ _ _ _ _ _ _ _ _ _ w hz hE HF (fun w1=>HW _ _ _ _ w1) HB
   ·exact aeI _ _ _ _ _ _ _ _ _ _ _ _ _ _ _ _ _ _ _ _ w (by simpa using hf) hf2 (fun c=>hl ⟨rfl,c⟩) hz hE HF (fun w1=>HW _ _ _ _ w1) HB
   ·exact aeF _ _ _ _ _ _ _ _ _ _ _ _ _ _ _ _ _ _ _ _ w hz hE HF (fun w1=>HW _ _ _ _ w1) HB
   ·exact absurd (h2 hf rfl rfl rfl) (fun c=>hl ⟨rfl,c⟩)
 ·rw[if_pos rfl]
  rcases qt hk with hf|hf|hf
  ·rw[if_neg (by omega)]
   rw[hf] at HF;have hw':wy=1∨wy=2∨wy=3∨wy=4∨wy=5:=by omega
   rcases hw' with rfl|rfl|rfl|rfl|rfl
   ·rw[if_pos ⟨hf,rfl⟩]
    exact refPl_u1 ex _ _ _ _ _ _ _ _ _ _ _ _ _ _ _ _ w HF
   ·rw[if_pos ⟨hf,rfl⟩]
    exact refPl_u2 ex _ _ _ _ _ _ _ _ _ _ _ _ _ _ _ _ w HF
   ·have ho:aaV 3 ps=false:=by cases ps<;>rfl
    rw[if_neg (by rw[ho];simp)];exact refPl_i3 ex _ _ _ _ _ _ _ _ _ _ _ _ _ _ _ _ _ w HF (fun w1=>HG ps w1)
   ·cases ps
    ·rw[if_pos ⟨hf,rfl⟩]
     exact refPl_u4 ex _ _ _ _ _ _ _ _ _ _ _ _ _ _ _ w HF
    ·rw[if_neg (by simp[aaV])]
     exact refPl_i4 ex _ _ _ _ _ _ _ _ _ _ _ _ _ _ _ _ w HF (fun w1=>HG true w1)
   ·cases ps
    ·rw[if_neg (by simp[aaV])]
     exact refPl_i5 ex _ _ _ _ _ _ _ _ _ _ _ _ _ _ _ _ w HF (fun w1=>HG false w1)
    ·rw[if_pos ⟨hf,rfl⟩]
     exact refPl_u5 ex _ _ _ _ _ _ _ _ _ _ _ _ _ _ _ w HF
  ·rw[if_neg (by omega),if_neg (fun c=>by omega)]
   rw[hf] at HF;exact refPl_o2 ex _ _ _ _ _ _ _ _ _ _ _ _ _ _ _ _ _ _ w HF (fun w1=>HG ps w1)
  ·rw[if_pos hf]
   rw[hf] at HF HN;exact refPl_o3 ex _ _ _ _ _ _ _ _ _ _ _ _ _ _ _ _ _ w HF HN
def iZ (t:ak):Prop:=t.n<2^64∧ -16500≤t.e∧t.e≤16500
theorem VZ {k:Nat}(hk:1≤k∧k≤8)(s:ByteArray)(hc:dh k (aZ k s) (aR k s) (aU k s)=2):(ji k (aZ k s) (aR k s) (aU k s)).n<2^64∧ -16445≤(ji k (aZ k s) (aR k s) (aU k s)).e∧(ji k (aZ k s) (aR k s) (aU k s)).e≤16464∧(ji k (aZ k s) (aR k s) (aU k s)).n≠0:=by
 obtain⟨s1,s2⟩:=Cu k s;have h64:=mZ hk s2;obtain⟨v1,v2,-,-⟩:=J9 hk s1 s2 hc;have hb:=rT hk s1 s2 h64 hc (Nat.ne_of_gt (jX hc));have hT:=iq hk s1 s2 hc;rw[wQ hk] at hT;refine⟨?_,v1,v2, ?_⟩
 ·rw[hT,←hb]
  exact Nat.lt_of_le_of_lt (kR _) (J8 hk _ _ h64)
 ·rw[hT]
  exact(gN (t:=⟨_,_,_⟩) (Nat.ne_of_gt (jX hc))).1
theorem ir {k:Nat}(hk:1≤k∧k≤8){p:ByteArray}(h:dF (k:Int) p=0):iZ (opT (k:Int) p)∧(bM (k:Int) p≠2→opT (k:Int) p=⟨false,0,0⟩)∧(bM (k:Int) p=2→(opT (k:Int) p).n≠0):=by
 have e:opT (k:Int) p=ji k (aZ k p) (aR k p) (aU k p):=by
  unfold opT nxT;rw[if_pos h,Int.toNat_natCast]
 have ec:bM (k:Int) p=dh k (aZ k p) (aR k p) (aU k p):=by
  unfold bM;rw[if_pos h,Int.toNat_natCast]
 rw[e,ec]
 by_cases hc:dh k (aZ k p) (aR k p) (aU k p)=2
 ·obtain⟨s1,s2,s3,s4⟩:=VZ hk p hc
  exact⟨⟨s1,by omega,by omega⟩,fun c=>absurd hc c,fun _=>s4⟩
 ·have:=Fm hk (ng:=aZ k p) (E:=aR k p) (F:=aU k p) hc
  rw[this];exact⟨⟨by show(0:Nat)<2^64;exact Nat.two_pow_pos 64,by show(-16500:Int)≤0;omega,by show(0:Int)≤16500;omega⟩,fun _=>rfl,fun c=>absurd c hc⟩
def nu (t:ak)(sg:Bool):Int×Bool×ak×Int:=(vI t,xr t sg,tF t,0)
def mK (k:Nat)(cx:Int)(gx:Bool)(x:ak)(cy:Int)(gy:Bool)(y:ak):Int×Bool×ak×Int:=
 if cx=3∧cy=1∨cx=1∧cy=3 then noV k 16 else if cx=3∨cy=3 then(3,gx != gy,⟨false,0,0⟩,0) else nu (aK x y) (gx != gy)
abbrev opV (c:Int)(g:Bool)(t:ak)(o:Option Addr)(k:Nat):Value:=(yOV c g t o k)
abbrev rdT (w:World)(t:ak)(o:Option Addr)(k:Nat):Prop:=Rd w .u32 (.slice o (Dg.dg 4294967296 t.n).length k) (Dg.dg 4294967296 t.n)
def Mid (t:ak):Prop:=(Dg.dg 4294967296 t.n).length≤100000∧ -100000≤t.e∧t.e≤100000
theorem vZ (k:Nat)(hk:1≤k∧k≤8)(wy cx cy:Int)(gx gy:Bool)(x y:ak)(xo yo:Option Addr)(xc yc:Nat)(w:World)(rx:rdT w x xo xc)(ry:rdT w y yo yc)(mx:Mid x)(my:Mid y):
  yC 65 #[dsk k wy,opV cx gx x xo xc,opV cy gy y yo yc] w (RE w (mK k cx gx x cy gy y)):=by
 have HT:=fun w1 (b:yB w w1)=>Ac _ _ x y w1 ⟨_,rfl,rx.l b⟩ ⟨_,rfl,ry.l b⟩ mx.1 my.1 mx.2.1 mx.2.2 my.2.1 my.2.2
 have HM:=fun uo uc w1 h=>mT (aK x y) (gx != gy) uo uc w1 h
 unfold mK
 by_cases hx:cx=3
 ·subst hx
  by_cases hy:cy=1
  ·subst hy
   rw[if_pos (.inl ⟨rfl,rfl⟩)];exact Oh _ _ _ _ _ _ _ _ _ _ _ _ _ _ _ _ _ w (fun w1=>lV k hk wy 16 w1)
  ·rw[if_neg (by omega),if_pos (.inl rfl)]
   exact Oj _ _ _ _ _ _ _ _ _ _ _ _ _ _ _ _ _ w (ne1 hy)
 ·by_cases hy:cy=3
  ·subst hy
   by_cases h1:cx=1
   ·subst h1
    rw[if_pos (.inr ⟨rfl,rfl⟩)];exact Oi _ _ _ _ _ _ _ _ _ _ _ _ _ _ _ _ _ w (fun w1=>lV k hk wy 16 w1)
   ·rw[if_neg (by omega),if_pos (.inr rfl)]
    exact Ok _ _ _ _ _ _ _ _ _ _ _ _ _ _ _ _ _ w (ne3 hx) (ne1 h1)
  ·rw[if_neg (by omega),if_neg (by omega)]
   by_cases h1:cx=1
   ·subst h1
    exact Ol _ _ _ _ _ _ _ _ _ _ _ _ _ _ _ _ _ _ _ _ _ w (ne3 hy) HT HM
   ·exact K5 _ _ _ _ _ _ _ _ _ _ _ _ _ _ _ _ _ _ _ _ _ _ w (ne3 hx) (ne1 h1) (ne3 hy) HT HM
theorem zw {a b x:Nat}(h:x<2^a)(hab:a≤b):x<2^b:=Nat.lt_of_lt_of_le h (Nat.pow_le_pow_right (by omega) hab)
theorem I3 {a b:ak}{A B:Nat}{H:Int}(ha:a.n<2^A)(hb:b.n<2^B)(h1:a.e+A≤H)(h2:b.e+B≤H):(aG a b).e=min a.e b.e∧(aG a b).e+(bitLen (aG a b).n:Int)≤H+1:=by
 obtain⟨e,he⟩: ∃e,min a.e b.e=e:=⟨_,rfl⟩;have x1:a.n*2^ (a.e-e).toNat<2^ (H-e).toNat:=by
  refine zw (a:=A+(a.e-e).toNat) ?_ (by omega);rw[Nat.pow_add];exact Nat.mul_lt_mul_of_pos_right ha (bG _)
 have y1:b.n*2^ (b.e-e).toNat<2^ (H-e).toNat:=by
  refine zw (a:=B+(b.e-e).toNat) ?_ (by omega);rw[Nat.pow_add];exact Nat.mul_lt_mul_of_pos_right hb (bG _)
 have key:(aG a b).e=e∧(aG a b).n<2^ ((H-e).toNat+1):=by
  unfold aG;simp only;rw[he,Nat.pow_succ]
  split
  ·exact⟨rfl,by show _+_<_;omega⟩
  ·split
   ·exact⟨rfl,by show _-_<_;omega⟩
   ·exact⟨rfl,by show _-_<_;omega⟩
 have:=bF _ _ key.2;refine⟨key.1.trans he.symm, ?_⟩;rw[key.1];omega
theorem xt {t:ak}{sg:Bool}(hn:sH t)(h:(nu t sg).1=2):(nu t sg).2.2.1.n≠0∧sH (nu t sg).2.2.1:=by
 have h0:t.n≠0:=fun c=>by
  have:vI t=2:=h;unfold vI at this;rw[if_pos c] at this;omega
 have e:(nu t sg).2.2.1=t:=if_neg h0;rw[e];exact⟨h0,hn⟩
theorem I4 {k:Nat}{cx cy:Int}{gx gy:Bool}{x y:ak}(hn:sH (aK x y))(h:(mK k cx gx x cy gy y).1=2):(mK k cx gx x cy gy y).2.2.1.n≠0∧sH (mK k cx gx x cy gy y).2.2.1:=by
 unfold mK at h⊢
 by_cases c1:cx=3∧cy=1∨cx=1∧cy=3
 ·rw[if_pos c1] at h
  exact(vN h).elim
 rw[if_neg c1] at h⊢
 by_cases c2:cx=3∨cy=3
 ·rw[if_pos c2] at h
  simp at h
 rw[if_neg c2] at h⊢;exact xt hn h
theorem jB {t:ak}(h:iZ t):Mid t:=⟨jq h.1 (by omega),by have:=h.2;omega,by have:=h.2;omega⟩
theorem rJ {x y:ak}(hx:iZ x)(hy:iZ y):sH (aG x y)∧sH (aK x y)∧(aK x y).n<2^128∧ -33000≤(aK x y).e∧(aK x y).e≤33000:=by
 obtain⟨x1,x2,x3⟩:=hx;obtain⟨y1,y2,y3⟩:=hy;have hp:=I3 (H:=16564) x1 y1 (by omega) (by omega);have ht:(aK x y).n<2^128:=by
  show x.n*y.n<_
  rw[show(128:Nat)=64+64 from rfl,Nat.pow_add]
  exact Nat.mul_lt_mul'' x1 y1
 have hb:=bF _ _ ht;have he:(aK x y).e=x.e+y.e:=rfl;refine⟨⟨by omega,by omega⟩,⟨by omega,by omega⟩,ht,by omega,by omega⟩
theorem acu {k:Nat}(hk:1≤k∧k≤8){p:ByteArray}(h:dF (k:Int) p=0):
  opT (k:Int) p=rfT (k:Int) p∧dz (k:Int) p=rfG (k:Int) p∧bM (k:Int) p=dh k (aZ k p) (aR k p) (aU k p)∧rfT (k:Int) p=nxT k p:=by
 unfold opT rfT dz rfG bM nxT;rw[if_pos h,if_pos h,if_pos h,Int.toNat_natCast,Nu hk];exact⟨rfl,rfl,rfl,rfl⟩
def qL (n:Int)(a b:ByteArray):Int×Bool×ak×Int:=mK n.toNat ((bM n a:Nat):Int) (dz n a) (opT n a) ((bM n b:Nat):Int) (dz n b) (opT n b)
theorem AN (n way:Int)(a b:ByteArray)(w:World)(hT:Tab w):yC 24 #[yi n,.string a,.string b,yi way] w (mM (jV n way [a,b] (qL n a b)) w):=by
 refine aeR n way _ _ a b _ w (fun pb w1 b1 hl=> ?_)
 refine nQ n way [a,b] _ _ pb w1 (by simp) (by simp) hl (enter_of func64 (by kernel_rfl) rfl) (hT.l b1) (fun k hk hn he hN=> ?_)
 subst hn;unfold qL;rw[Int.toNat_natCast];obtain⟨sa,-,-⟩:=ir hk (eU he a (by simp));obtain⟨sb,-,-⟩:=ir hk (eU he b (by simp));refine⟨fun h=>I4 (rJ sa sb).2.1 h,fun g cap w2 b2 h=> ?_⟩
 obtain⟨xo,xc,r0,k0⟩:=h.each 0 a rfl;obtain⟨yo,yc,r1,k1⟩:=h.each 1 b rfl;exact adb _ _ _ _ _ _ _ _ _ _ _ _ _ _ _ _ _ _ _ _ _ _ _ _ w2 r0 r1 (fun w3 b3=>vZ k hk way _ _ _ _ _ _ _ _ _ _ w3 (k0.l b3) (k1.l b3) (jB sa) (jB sb))
theorem fam_one {k:Nat}(hk:1≤k∧k≤8):dK (k:Int)=1↔k≤3:=by
 rcases bO hk with rfl|rfl|rfl|rfl|rfl|rfl|rfl|rfl<;>decide
structure Rnd (k:Nat) (P:fz):Prop where
 plc:Plc k P
 nil0:P.d=0→P.p=0
 spot:P.ov=false→ ¬(P.un=true∧P.p<lsI k)→P.d≠0→ia (rdN k:Int) (dgN k:Int) (lsI k) (gsI k) (decide (k≤3)) P.d P.p
theorem rnd_of {k:Nat}(hk:1≤k∧k≤8)(s:Bool)(N M:Nat)(E way:Int)(hN:N≠0)(hM:M≠0):Rnd k (cI (rdN k:Int) (dgN k:Int) (lsI k) (gsI k) (decide (k≤3)) s N M E way):=by
 obtain⟨-,-,d1,-,l1,l0,lg,g2,w64,-,ww,hg⟩:=eR hk;have hD:(1:Int)≤(dgN k:Int):=by omega
 have hfk:=fam_one hk;have hrs:=nW (R:=(rdN k:Int)) (D:=(dgN k:Int)) (L:=lsI k) (G:=gsI k) (gr:=decide (k≤3)) (qs:=s) (N:=N) (M:=M) (E:=E) (way:=way) hD lg hN hM;rw[kJ _ s N M E way hD lg hN hM] at hrs⊢;have hwl:=rP (rdN k:Int) (dgN k:Int) (lsI k) (decide (k≤3)) N M E hD hN hM;have hwp:=Vf (rdN k:Int) (dgN k:Int) (lsI k) (decide (k≤3)) N M E hD hN hM;have hds:=uh (rdN k:Int) (dgN k:Int) (lsI k) (decide (k≤3)) N M E hD hN hM (dj (rdN k:Int) (dgN k:Int) (lsI k) (decide (k≤3)) N M E);have hdz:=CD (rdN k:Int) (dgN k:Int) (fM (rdN k:Int) (dgN k:Int) (lsI k) (decide (k≤3)) s N M E way);have hdg:=KL (rdN k:Int) (dgN k:Int) (lsI k) (decide (k≤3)) s N M E way;have hd1:fM (rdN k:Int) (dgN k:Int) (lsI k) (decide (k≤3)) s N M E way≤cH (rdN k:Int) (dgN k:Int) (lsI k) (decide (k≤3)) N M E+1:=by
  unfold fM
  split<;>omega
 have hdn:gF (rdN k:Int) (dgN k:Int) (lsI k) (decide (k≤3)) N M E=0→fM (rdN k:Int) (dgN k:Int) (lsI k) (decide (k≤3)) s N M E way=cH (rdN k:Int) (dgN k:Int) (lsI k) (decide (k≤3)) N M E:=fun h=>by
  unfold fM;rw[if_neg (fun c=>of_decide_eq_false c.1 h)]
 have hcut:(k≤3→lsI k≤dj (rdN k:Int) (dgN k:Int) (lsI k) (decide (k≤3)) N M E)∧(¬k≤3→dj (rdN k:Int) (dgN k:Int) (lsI k) (decide (k≤3)) N M E=aT (rdN k:Int) (dgN k:Int) (dY N M E)):=by
  unfold dj;refine⟨fun h=> ?_,fun h=> ?_⟩
  ·rw[decide_eq_true h,Bool.and_true]
   split
   ·exact Int.le_refl _
   ·rename_i c
    simpa using c
  ·rw[decide_eq_false h,Bool.and_false,if_neg (by decide)]
 have hcP:gD (rdN k:Int) (dgN k:Int) (fM (rdN k:Int) (dgN k:Int) (lsI k) (decide (k≤3)) s N M E way) (dj (rdN k:Int) (dgN k:Int) (lsI k) (decide (k≤3)) N M E)=dj (rdN k:Int) (dgN k:Int) (lsI k) (decide (k≤3)) N M E∨(gD (rdN k:Int) (dgN k:Int) (fM (rdN k:Int) (dgN k:Int) (lsI k) (decide (k≤3)) s N M E way) (dj (rdN k:Int) (dgN k:Int) (lsI k) (decide (k≤3)) N M E)=dj (rdN k:Int) (dgN k:Int) (lsI k) (decide (k≤3)) N M E+1∧io (rdN k:Int) (dgN k:Int) (fM (rdN k:Int) (dgN k:Int) (lsI k) (decide (k≤3)) s N M E way)=2^ (ai (rdN k:Int)*((dgN k:Int)-1).toNat)):=by
  unfold gD io
  split
  ·exact .inr ⟨rfl,rfl⟩
  ·exact .inl rfl
 have hpw:2^ (ai (rdN k:Int)*((dgN k:Int)-1).toNat)<2^ (ai (rdN k:Int)*(dgN k:Int).toNat):=by
  refine Nat.pow_lt_pow_right (by omega) (Nat.mul_lt_mul_of_pos_left ?_ (by omega));omega
 have hcl:io (rdN k:Int) (dgN k:Int) (fM (rdN k:Int) (dgN k:Int) (lsI k) (decide (k≤3)) s N M E way)<2^ (ai (rdN k:Int)*(dgN k:Int).toNat):=by
  unfold io
  split
  ·exact hpw
  ·omega
 have hlen:(Dg.dg 65536 (io (rdN k:Int) (dgN k:Int) (fM (rdN k:Int) (dgN k:Int) (lsI k) (decide (k≤3)) s N M E way))).length≤100000:=by
  refine Nat.le_trans (Dg.dg_len_le 65536 _ 4 (by omega) (Nat.lt_of_lt_of_le hcl ?_)) (by omega);rw[Int.toNat_natCast];exact Nat.le_trans (Nat.pow_le_pow_right (by omega) w64) (by decide)
 generalize fM (rdN k:Int) (dgN k:Int) (lsI k) (decide (k≤3)) s N M E way=dg at*;generalize dj (rdN k:Int) (dgN k:Int) (lsI k) (decide (k≤3)) N M E=ct at*;generalize aT (rdN k:Int) (dgN k:Int) (dY N M E)=pw at*;generalize cH (rdN k:Int) (dgN k:Int) (lsI k) (decide (k≤3)) N M E=wh at*;generalize gF (rdN k:Int) (dgN k:Int) (lsI k) (decide (k≤3)) N M E=lf at*;generalize hcPe:gD (rdN k:Int) (dgN k:Int) dg ct=cp at*;generalize hcDe:io (rdN k:Int) (dgN k:Int) dg=cd at*;have hpos: ¬k≤3→cd≠0:=fun h c=>by
  have:=hwp (hcut.2 h);have:=hdz.1 c;omega
 refine⟨⟨fun hf hl=> ?_,fun hf ho hu he=> ?_,fun ho hd=> ?_,hlen,fun ho=> ?_⟩,fun hd=>if_pos hd,fun ho hnl hd=> ?_⟩
 ·simp only at hl
  have h3:=hfk.1 hf;have:=hcut.1 h3
  exfalso
  split at hl<;>omega
 ·simp only at ho hu he⊢
  have h3: ¬k≤3:=fun c=>hf (hfk.2 c)
  have e1:=hdn (of_decide_eq_true he);have e2:=hcut.2 h3;have e3:=of_decide_eq_true hu;rw[if_neg (hpos h3)];rw[e1,hds.2] at hcPe;omega
 ·exact hfk.2 (Decidable.byContradiction fun h3=>hpos h3 hd)
 ·simp only at ho⊢
  have hG:=of_decide_eq_false ho
  by_cases h3:k≤3
  ·have:=hcut.1 h3
   right
   split<;>omega
  ·rw[if_neg (hpos h3)]
   have e2:=hcut.2 h3
   by_cases hl:cp<lsI k
   ·left
    exact⟨decide_eq_true (by omega),hl⟩
   ·right
    omega
 ·simp only at ho hnl hd⊢
  rw[if_neg hd] at hnl⊢
  by_cases h3:k≤3
  ·have:=hrs ho (.inr (decide_eq_true h3))
   rw[if_neg hd] at this;exact this
  ·by_cases hu:pw<lsI k
   ·have e2:=hcut.2 h3
    have hl: ¬cp<lsI k:=fun c=>hnl ⟨decide_eq_true hu,c⟩
    have hG:=of_decide_eq_false ho;obtain⟨c1,c2⟩:=hcP.resolve_left (by omega);exact .inr ⟨hd,by omega,by omega,hcl,.inl (by omega)⟩
   ·have:=hrs ho (.inl (decide_eq_false hu))
    rw[if_neg hd] at this;exact this
def SameV (k:Nat)(r:ByteArray×Int×Int)(v:Int×Bool×ak×Int):Prop:=
 r.2.2=0∧r.2.1=v.2.2.2∧ ∀so sc w,Rd w .i64 (.slice so (Dg.dg 65536 v.2.2.1.n).length sc) (Dg.dg 65536 v.2.2.1.n)→yC 61 #[yi (k:Int),yoV v.1 v.2.1 v.2.2.1.s (.slice so (Dg.dg 65536 v.2.2.1.n).length sc) v.2.2.1.e] w (yR w (.string r.1))
theorem same_num {k:Nat}(hk:1≤k∧k≤8)(g:Bool){m:Nat}{p:Int}(fl:Int)(hm:m≠0)(hs:ia (rdN k:Int) (dgN k:Int) (lsI k) (gsI k) (decide (k≤3)) m p):SameV k (Dw k 2 g m p fl) (2,g,bare ⟨g,m,(ai (rdN k:Int):Int)*p⟩,fl):=by
 obtain⟨-,-,d1,-,-,-,lg,-,w64,-,-,hg⟩:=eR hk;obtain⟨l15,p1,p2,w1',w2',t480⟩:=qj hg hs;have hh:=mI (s:=g) hg hs;have hc:chk (Dg.dg 4294967296 m)=0:=pJ (Dg.norm_dg _ _ (by omega)) (by omega);have hl0:(Dg.dg 4294967296 m).length≠0:=fun c=>hm ((Dg.dg_nil_iff 4294967296 _ (by omega)).1 (List.length_eq_zero_iff.1 c))
 have hsh:=Af (s:=g) hg hs;have hb0:(bare ⟨g,m,(ai (rdN k:Int):Int)*p⟩).n≠0:=fun c=>hm ((fI _).1 c)
 have hbs:(bare ⟨g,m,(ai (rdN k:Int):Int)*p⟩).s=g:=by unfold bare;rw[if_neg hm]
 have hE:enE k g (Dg.dg 4294967296 m) p=0:=by
  rw[mY hk hc hl0 (by omega),Dg.vl_dg _ _ (by omega),jK _ _ lg];rw[nN _ _ lg] at hh;rw[hh,if_pos rfl]
 have hS:fq (k:Int) 2 g (Dg.dg 4294967296 m) p=cF (kU k g (heE (rdN k:Int) (lsI k) (gW k) (plT k g (bare ⟨g,m,(ai (rdN k:Int):Int)*p⟩).n (bare ⟨g,m,(ai (rdN k:Int):Int)*p⟩).e)) (plT k g (bare ⟨g,m,(ai (rdN k:Int):Int)*p⟩).n (bare ⟨g,m,(ai (rdN k:Int):Int)*p⟩).e).d):=by
  have hN:enN k g (Dg.dg 4294967296 m) p=(bare ⟨g,m,(ai (rdN k:Int):Int)*p⟩,0):=hsh;have hps:(plT k g (bare ⟨g,m,(ai (rdN k:Int):Int)*p⟩).n (bare ⟨g,m,(ai (rdN k:Int):Int)*p⟩).e).s=g:=(oj (s:=g) (way:=3) (by omega) lg hb0 hh).1;rw[(xH hk hc).2];unfold enS;rw[if_pos hE,hN];simp only;rw[hbs,hps]
 unfold Dw;rw[(xH hk hc).1,hE,if_pos rfl,hS];refine⟨rfl,rfl,fun so sc w hr=> ?_⟩
 simp only at hr⊢;have hbn:=kR ⟨g,m,(ai (rdN k:Int):Int)*p⟩;obtain⟨b1,b2,b3⟩:=gN (t:=⟨g,m,(ai (rdN k:Int):Int)*p⟩) hm;simp only at b2 hbn;have hlen:(Dg.dg 65536 (bare ⟨g,m,(ai (rdN k:Int):Int)*p⟩).n).length≤20000:=by
  have hlt:m<4294967296^15:=by
   have:=Dg.vl_lt 4294967296 _ (Dg.small_dg 4294967296 m (by omega));rw[Dg.vl_dg _ _ (by omega)] at this;exact Nat.lt_of_lt_of_le this (Nat.pow_le_pow_right (by omega) l15)
  refine Nat.le_trans (Dg.dg_len_le 65536 _ 30 (by omega) (Nat.lt_of_le_of_lt hbn (Nat.lt_of_lt_of_le hlt ?_))) (by omega);exact Nat.le_of_eq (by rw[show(4294967296:Nat)=65536^2 from rfl,←Nat.pow_mul])
 exact Bu k hk g g _ so _ sc _ w hr hlen (by omega) (by omega) hb0 hh
theorem same_oth {k:Nat}(hk:1≤k∧k≤8){c:Nat}(hc:c=1∨c=3∨c=4∨c=5)(g:Bool)(fl:Int)(hs:iR k c=true)(hg:g=true→Bk k c=true):SameV k (Dw k (c:Int) g 0 0 fl) ((c:Int),g,⟨false,0,0⟩,fl):=by
 have hf: ¬(dK (k:Int)=0∨(c:Int)<1∨5< (c:Int)):=by
  rcases qt hk with h|h|h<;>omega
 have ho:qX k c 0 g 0=0:=by
  unfold qX;rw[if_neg (by rw[hs];decide),if_neg];rintro(h|h|h)
  ·omega
  ·exact h rfl
  ·rw[hg h.1] at h
   exact absurd h.2 (by decide)
 have hE:gI (k:Int) (c:Int) g (Dg.dg 4294967296 0) 0=0:=by
  unfold gI;rw[if_neg hf,if_neg (fun h=>h (by decide)),if_neg (by omega),Int.toNat_natCast,Int.toNat_natCast]
  exact ho
 have hS:fq (k:Int) (c:Int) g (Dg.dg 4294967296 0) 0=cF (kU k (pI k c||g) (pg k c) (lS k c)):=by
  unfold fq Fv;rw[if_neg hf,if_neg (fun h=>h (by decide)),if_neg (by omega),Int.toNat_natCast,Int.toNat_natCast]
  exact if_pos ho
 unfold Dw;rw[hE,if_pos rfl,hS];exact⟨rfl,rfl,fun so sc w hr=>Bt k c hk hc hs g false so 0 sc 0 w⟩
theorem same_plc {k:Nat}(hk:1≤k∧k≤8)(wy:Int)(P:fz)(h:Rnd k P):SameV k (Dw k (pG k wy P).1 (pG k wy P).2.1 (pG k wy P).2.2.1 (pG k wy P).2.2.2.1 (bits .or .i64 0 (pG k wy P).2.2.2.2)) (plV k wy P):=by
 have hp1:rdN k^dgN k-1≠0:=by
  rcases bO hk with rfl|rfl|rfl|rfl|rfl|rfl|rfl|rfl<;>decide
 have b5:bits .or .i64 0 5=5:=rfl;have b3:bits .or .i64 0 3=3:=rfl;unfold pG plV
 by_cases ho:P.ov=true
 ·simp only[if_pos ho]
  unfold ovV;rw[b5]
  rcases qt hk with hf|hf|hf
  ·have h3: ¬dK (k:Int)=3:=by omega
   simp only[if_neg h3]
   by_cases hb:aaV wy P.s=true
   ·have hc:dK (k:Int)=1∧aaV wy P.s=true:=⟨hf,hb⟩
    simp only[if_pos hc];have h3:=(fam_one hk).1 hf;exact same_oth hk (c:=3) (by decide) P.s 5 (by simp[iR,h3]) (fun _=>rfl)
   ·have hc: ¬(dK (k:Int)=1∧aaV wy P.s=true):=fun c=>hb c.2
    simp only[if_neg hc];exact same_num hk P.s 5 hp1 (EV hk)
  ·have h3: ¬dK (k:Int)=3:=by omega
   have hc: ¬(dK (k:Int)=1∧aaV wy P.s=true):=fun c=>by omega
   simp only[if_neg h3,if_neg hc];exact same_num hk P.s 5 hp1 (EV hk)
  ·simp only[if_pos hf]
   have h6:6≤k:=by
    revert hf
    rcases bO hk with rfl|rfl|rfl|rfl|rfl|rfl|rfl|rfl<;>decide
   exact same_oth hk (c:=5) (by decide) false 5 (by simp[iR,h6]) (fun c=>by cases c)
 simp only[if_neg ho]
 by_cases hl:P.un=true∧P.p<lsI k
 ·simp only[if_pos hl]
  rw[b3];exact same_oth hk (c:=1) (by decide) false 3 rfl (fun c=>by cases c)
 simp only[if_neg hl];have hfl:bits .or .i64 0 (if P.ex=true then 0 else if P.un=true then 3 else 1)=(if P.ex=true then 0 else if P.un=true then 3 else 1):=by
  split
  ·rfl
  ·split<;>rfl
 rw[hfl]
 by_cases hd:P.d=0
 ·simp only[if_pos hd]
  rw[hd,h.nil0 hd];have h3:=(fam_one hk).1 (h.plc.nil (by simpa using ho) hd);exact same_oth hk (c:=1) (by decide) P.s _ rfl (fun _=>by simp[Bk];omega)
 ·simp only[if_neg hd]
  exact same_num hk P.s _ hd (h.spot (by simpa using ho) hl hd)
theorem rd_one16 {w:World}{q:Nat}(h:w.cell? ⟨q,0,none⟩=some (yi 1)):Rd w .i64 (.slice (some ⟨q,0,none⟩) 1 1) [1]:=
 ⟨_,1,rfl,Nat.le_refl _,by unfold maxLen;omega,fun _=>⟨q,0,rfl,fun i hi=>by
  obtain rfl:i=0:=by simpa using hi
  exact h⟩⟩
theorem refOfD_any (x:ak)(xo:Option Addr)(xc:Nat)(w:World):
  yC 127 #[yMV x xo xc] w fun z w'=> ∃eo ec,z= .returned (yrV x.s (.slice xo (Dg.dg 65536 x.n).length xc) (.slice eo 1 ec) x.e)∧Rd w' .i64 (.slice eo 1 ec) [1]∧yB w w':=by
 obtain⟨W,hW,q1,q2,b⟩:=iG w (yML x xo xc) 30 (yrL false (.slice none 0 0) (.slice none 0 0) 0) 66;replace hW:Hid _:=hW
 go_enter func127,ntmps127
 go_upto_region 1 with fail
 rw[hW.out];clear hW;have al:=af W (.cells #[yi 1] 3);have hn:=ah W [yi 1] 3;have hlt:=q2.lt;have q3:=q2.l al;have b3:=aa b al;have hf:=afz (P:=Tryz.prog) q3 b3 (by omega) underlying66 rfl (by kernel_rfl) (.bool x.s) (.slice xo (Dg.dg 65536 x.n).length xc) (.slice (some ⟨W.heap.size,0,none⟩) 1 1) (yi x.e);have HH:Hid (_∧_∧_):=⟨hf.1,hf.2.2.loc hn (by omega),hf.2.1⟩;obtain⟨c0,c1,c2⟩:=q1.cs3;obtain⟨d0,d1,d2⟩:=(q1.l al).cs3;obtain⟨⟨z0,z1,z2,z3⟩,y0,y1,y2,y3⟩:=afB q3;clear hf q1 q2 q3 b b3 al hn hlt
 go_wp2
 obtain⟨hl,hq,bR⟩:=HH.out;exact bodyPost_ret (br results127 rfl hl) rfl ⟨_,_,rfl,rd_one16 (hq.c 0 rfl),bR⟩
theorem round_bare {R D L G:Int}{gr:Bool}{way:Int}(t:ak)(h0:t.n≠0)(hD:1≤D)(hw:ai R*D.toNat≤64)(s:Bool):
  cI R D L G gr s (bare t).n 1 (bare t).e way=cI R D L G gr s t.n 1 t.e way:=by
 obtain⟨b1,b2,-⟩:=gN h0;obtain⟨m,hm⟩:=fO h0;have hn:(bare t).n=2*m+1:=by
  unfold bare;rw[if_neg h0];exact lI hm
 refine AC b1 (by omega) h0 (by omega) hD hw (J:=dY (bare t).n 1 (bare t).e-64) (aep ((max (-t.e) 0).toNat) (by omega) (by omega) (by omega) (by omega) ?_ _) (by omega);rw[hn,b2,Nat.mul_one,Nat.mul_one,show(t.e+(tz t.n:Int)+((max (-t.e) 0).toNat:Int)).toNat=tz t.n+(t.e+((max (-t.e) 0).toNat:Int)).toNat by omega,Nat.pow_add]
 generalize(t.e+((max (-t.e) 0).toNat:Int)).toNat=q at*
 conv=>rhs;rw[hm]
 rw[←Nat.mul_assoc,Nat.mul_comm (2*m+1)]
theorem fitted_any (k:Nat)(hk:1≤k∧k≤8)(wy:Int)(hw:1≤wy∧wy≤5)(qs:Bool)(N M:Nat)(E:Int)(no mo:Option Addr)(nc mc:Nat)(w:World)(hN:N≠0)(hM:M≠0)(rN:Rd w .i64 (.slice no (Dg.dg 65536 N).length nc) (Dg.dg 65536 N))(rM:Rd w .i64 (.slice mo (Dg.dg 65536 M).length mc) (Dg.dg 65536 M))
  (lN:bitLen N≤40000) (lM:bitLen M≤40000) (e1: -100000≤E) (e2:E≤100000):
  yC 39 #[yi (k:Int),yrV qs (.slice no (Dg.dg 65536 N).length nc) (.slice mo (Dg.dg 65536 M).length mc) E,yi wy] w (RVF w (plV k wy (cI (rdN k:Int) (dgN k:Int) (lsI k) (gsI k) (decide (k≤3)) qs N M E wy)).1 (plV k wy (cI (rdN k:Int) (dgN k:Int) (lsI k) (gsI k) (decide (k≤3)) qs N M E wy)).2.1 (plV k wy (cI (rdN k:Int) (dgN k:Int) (lsI k) (gsI k) (decide (k≤3)) qs N M E wy)).2.2.1 (plV k wy (cI (rdN k:Int) (dgN k:Int) (lsI k) (gsI k) (decide (k≤3)) qs N M E wy)).2.2.2):=by
 obtain⟨-,-,-,-,-,-,-,-,-,-,-,hg⟩:=eR hk;have key: ∀L:Nat,40000≤16*L→ ∀{x:Nat},bitLen x≤40000→(Dg.dg 65536 x).length≤L:=fun L hL {x} h=>by
  refine Dg.dg_len_le 65536 x L (by omega) ?_;rw[show(65536:Nat)=2^16 from rfl,←Nat.pow_mul]
  exact wZ (Nat.le_trans h hL)
 have hlen: ∀{x:Nat},bitLen x≤40000→(Dg.dg 65536 x).length≤20000:=fun {x} h=>key 20000 (by omega) h
 have hy:iC wy=true:=by unfold iC;simpa using hw
 refine(acs (k:Int) _ _ _ (rdN k:Int) (dgN k:Int) (lsI k) (gsI k) _ _ wy E _ (decide (k≤3)) _ _ qs N M no mo nc mc (cI (rdN k:Int) (dgN k:Int) (lsI k) (gsI k) (decide (k≤3)) qs N M E wy) _ w (fun w1=>form_any k hk w1) (fun w1 b=>KU _ _ _ _ _ qs no nc mo mc N M E wy w1 hg hy (rN.l b) (rM.l b) (hlen lN) (hlen lM) hN hM e1 e2 (by omega) (by omega)) (fun po pc w1 h=>placed_any k hk wy hw _ (rnd_of hk qs N M E wy hN hM).plc po pc w1 h)).mono (fun z w' h=>h.near)
theorem fitD_any (k:Nat)(hk:1≤k∧k≤8)(wy:Int)(hw:1≤wy∧wy≤5)(x:ak)(xo:Option Addr)(xc:Nat)(w:World)(h0:x.n≠0)(rx:Rd w .i64 (.slice xo (Dg.dg 65536 x.n).length xc) (Dg.dg 65536 x.n))(lN:bitLen x.n≤40000)(e1: -100000≤x.e)(e2:x.e≤100000):
  yC 66 #[yi (k:Int),yMV x xo xc,yi wy] w (RVF w (plV k wy (fY k wy x)).1 (plV k wy (fY k wy x)).2.1 (plV k wy (fY k wy x)).2.2.1 (plV k wy (fY k wy x)).2.2.2):=by
 have hz:(((Dg.dg 65536 x.n).length:Int)==0)=false:=by
  have:(Dg.dg 65536 x.n).length≠0:=fun c=>h0 ((Dg.dg_nil_iff 65536 _ (by omega)).1 (List.length_eq_zero_iff.1 c))
  simpa using this
 exact aeo (k:Int) _ wy _ _ x _ xo xc w hz (fun w1 b=>refOfD_any x xo xc w1) (fun eo ec w1 b h=>fitted_any k hk wy hw x.s x.n 1 x.e xo eo xc ec w1 h0 (by omega) (rx.l b) h lN (by decide) e1 e2)
def nthV (k:Nat)(fl:Int):Int×Bool×ak×Int:=(AZ (dK (k:Int)),false,⟨false,0,0⟩,fl)
theorem same_off {k:Nat}(hk:1≤k∧k≤8)(way fl:Int):SameV k (m8 k way (AZ (dK (k:Int))) false ⟨false,0,0⟩ fl) (nthV k fl):=by
 unfold m8 nthV;rw[if_neg (show¬AZ (dK (k:Int))=2 from fun h=>vN (k:=k) (fl:=0) h)]
 have key: ∀c:Nat,AZ (dK (k:Int))=(c:Int)→(c=1∨c=3∨c=4∨c=5)→iR k c=true→SameV k (Dw k (c:Int) false 0 0 fl) ((c:Int),false,⟨false,0,0⟩,fl):=fun c _ hc hs=>same_oth hk hc false fl hs (fun c=>by cases c)
 rcases qt hk with hf|hf|hf
 ·have e:AZ (dK (k:Int))=((4:Nat):Int):=by rw[hf];rfl
  rw[e,if_neg (by decide)];exact key 4 e (by decide) (by have:=(fam_one hk).1 hf;simp[iR,this])
 ·have e:AZ (dK (k:Int))=((1:Nat):Int):=by rw[hf];rfl
  rw[e,if_pos (by decide)];exact key 1 e (by decide) rfl
 ·have e:AZ (dK (k:Int))=((5:Nat):Int):=by rw[hf];rfl
  rw[e,if_neg (by decide)];have h6:6≤k:=by
   revert hf
   rcases bO hk with rfl|rfl|rfl|rfl|rfl|rfl|rfl|rfl<;>decide
  exact key 5 e (by decide) (by simp[iR,h6])
theorem same_inf {k:Nat}(hk:1≤k∧k≤8)(h3:k≤3)(way:Int)(g:Bool)(t:ak)(fl:Int):SameV k (m8 k way 3 g t fl) (3,g,⟨false,0,0⟩,fl):=by
 unfold m8;rw[if_neg (by decide),if_neg (by decide)];exact same_oth hk (c:=3) (by decide) g fl (by simp[iR,h3]) (fun _=>rfl)
theorem same_nil {k:Nat}(hk:1≤k∧k≤8)(way:Int)(g:Bool)(t:ak)(fl:Int):SameV k (m8 k way 1 g t fl) (1,g&&decide (dK (k:Int)=1),⟨false,0,0⟩,fl):=by
 unfold m8;rw[if_neg (by decide),if_pos rfl];refine same_oth hk (c:=1) (by decide) _ fl rfl (fun h=> ?_)
 have:=(fam_one hk).1 (of_decide_eq_true (Bool.and_eq_true_iff.1 h).2);simp[Bk];omega
theorem same_fit {k:Nat}(hk:1≤k∧k≤8)(way:Int)(g:Bool)(t:ak)(h0:t.n≠0):SameV k (m8 k way 2 g t 0) (plV k way (fY k way t)):=by
 unfold m8;rw[if_pos rfl];exact same_plc hk way _ (rnd_of hk t.s t.n 1 t.e way h0 (by omega))
theorem lost_any (k:Nat)(hk:1≤k∧k≤8)(w:World):yC 59 #[yi (k:Int)] w (RVF w (AZ (dK (k:Int))) false ⟨false,0,0⟩ 16):=
 aen (k:Int) _ w (fun w1=>refNothing_any k hk w1)
theorem off_row (k:Nat)(hk:1≤k∧k≤8)(cl:List Int)(pb:Nat)(w:World)(hm:cl.length≤3)(hc: ∀(i:Nat) c,cl[i]? =some c→w.cell? ⟨pb,i*5,none⟩=some (yi c)):
  ((∀c∈cl,c≤3)→yC 58 #[yi (k:Int),.slice (some ⟨pb,0,none⟩) cl.length cl.length] w (yR w (.tuple #[yoV 0 false false (.slice none 0 0) 0,yi 0,.bool false])))∧
  ((∃j c,0≤j∧cl[j]? =some c∧4≤c)→yC 58 #[yi (k:Int),.slice (some ⟨pb,0,none⟩) cl.length cl.length] w (yR w (.tuple #[yoV (AZ (dK (k:Int))) false false (.slice none 0 0) 0,yi (if dK (k:Int)=3 then 16 else 0),.bool true]))):=by
 have HF:=fun w1=>form_any k hk w1
 have HN:=fun w1=>refNothing_any k hk w1
 refine⟨fun h=>aey _ _ _ _ _ _ _ _ _ _ _ cl pb w hm hc h HF,fun h=> ?_⟩
 by_cases hf:dK (k:Int)=3
 ·rw[if_pos hf]
  rw[hf] at HF;exact aez _ _ _ _ _ _ _ _ _ _ _ cl pb w hm hc h HF HN
 ·rw[if_neg hf]
  exact aff _ _ _ _ _ _ _ _ _ _ _ _ cl pb w hm hc (by simpa using hf) h HF HN
theorem aal (n c e wt:Int)(g:Bool)(t:ak)(so:Option Addr)(sc:Nat)(w:World)(he:(e==0)=false):
  yC 21 #[yi n,.string ⟨#[]⟩,yi 0,yi e,yi e,yEV c g t so sc,yi wt] w (yR w (.bool true)):=by
 obtain⟨W3,hW4,q1,b2⟩:=cA w (yEL c g t so sc) 32;replace hW4:Hid _:=hW4;clear q1
 go_enter func21,ntmps21
 go_upto_region 1 with fail
 rw[hW4.out];clear hW4
 go_wp2
 go_ret
 exact⟨by simp,b2⟩
end Go.Proofs.YtnhackdjplppjaaGreatDoor

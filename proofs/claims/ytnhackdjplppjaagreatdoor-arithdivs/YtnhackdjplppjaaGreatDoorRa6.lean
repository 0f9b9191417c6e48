/-
  ArithDivs, paid.
-/
import Derived.Test.YtnhackdjplppjaaGreatDoorUe03
namespace Go.Proofs.YtnhackdjplppjaaGreatDoor
open Go.RowKit
theorem op_sign {k:Nat}(hk:1≤k∧k≤8){p:ByteArray}(h:dF (k:Int) p=0)(c:bM (k:Int) p=2):(opT (k:Int) p).s=dz (k:Int) p:=by
 have h0:=(ir hk h).2.2 c;have hc:dh k (aZ k p) (aR k p) (aU k p)=2:=by
  unfold bM at c
  rwa [if_pos h,Int.toNat_natCast] at c
 have e:=(wI (EX hk p (.inr hc))).1;rw[Dg.vl_dg _ _ (by omega)] at e;have e2:opT (k:Int) p=nxT k p:=by unfold opT;rw[if_pos h,Int.toNat_natCast]
 rw[e2] at h0⊢;rw[e] at h0⊢;unfold dz;rw[if_pos h,Int.toNat_natCast];have hn:ge k (aZ k p) (aR k p) (aU k p)≠0:=fun c=>h0 ((fI _).2 c)
 unfold bare;rw[if_neg hn]
theorem pole_any (k:Nat)(hk:1≤k∧k≤8)(way:Int)(ng:Bool): ∃v,(∀w,yC 70 #[yi (k:Int),.bool ng] w (RVF w v.1 v.2.1 v.2.2.1 v.2.2.2))∧SameV k (m8 k way (EU k ng).1 (EU k ng).2.1 (EU k ng).2.2.1 (EU k ng).2.2.2) v:=by
 have HF:=fun w1=>form_any k hk w1
 unfold EU
 rcases qt hk with hf|hf|hf
 ·rw[if_pos hf]
  rw[hf] at HF;exact⟨(3,ng,⟨false,0,0⟩,8),fun w=>acA _ _ _ _ _ _ _ _ _ _ _ w HF,same_inf hk ((fam_one hk).1 hf) way ng _ 8⟩
 ·rw[if_neg (by omega),if_pos hf]
  rw[hf] at HF;have hp1:rdN k^dgN k-1≠0:=by
   rcases bO hk with rfl|rfl|rfl|rfl|rfl|rfl|rfl|rfl<;>decide
  obtain⟨-,-,d1,-,-,-,lg,-,w64,-,-,hg⟩:=eR hk;have gs:=EV hk;obtain⟨l15,p1,p2,-,-,-⟩:=qj hg gs;have hb0:(bare ⟨ng,rdN k^dgN k-1,(ai (rdN k:Int):Int)*gsI k⟩).n≠0:=fun c=>hp1 ((fI _).1 c)
  have hbs:(bare ⟨ng,rdN k^dgN k-1,(ai (rdN k:Int):Int)*gsI k⟩).s=ng:=by unfold bare;rw[if_neg hp1]
  have hc:chk (Dg.dg 4294967296 (rdN k^dgN k-1))=0:=pJ (Dg.norm_dg _ _ (by omega)) (by omega);have hl0:(Dg.dg 4294967296 (rdN k^dgN k-1)).length≠0:=fun c=>hp1 ((Dg.dg_nil_iff 4294967296 _ (by omega)).1 (List.length_eq_zero_iff.1 c))
  have hh:=mI (s:=ng) hg gs;have hE:enE k ng (Dg.dg 4294967296 (rdN k^dgN k-1)) (gsI k)=0:=by
   rw[mY hk hc hl0 (by omega),Dg.vl_dg _ _ (by omega),jK _ _ lg];have:=hh;rw[nN _ _ lg] at this;rw[this,if_pos rfl]
  have hans:=OC hk way (xr (bare ⟨ng,rdN k^dgN k-1,(ai (rdN k:Int):Int)*gsI k⟩) ng) (bare ⟨ng,rdN k^dgN k-1,(ai (rdN k:Int):Int)*gsI k⟩) 8 hb0 hh (Dg.small_dg _ _ (by omega)) hc (by rw[hbs];exact hE) (by rw[hbs,Dg.vl_dg _ _ (by omega),iH]);have hs:=same_num hk ng 8 hp1 gs;unfold Dw at hs;rw[(xH hk hc).1,hE,if_pos rfl] at hs;refine⟨(2,ng,gtT k ng,8),fun w=>acB _ _ _ _ _ _ _ _ _ _ _ _ w HF (fun w1=>(refGreatest_any k hk ng w1).mono (fun z w' h=>by
   obtain⟨s,h1,h2,-,h4⟩:=h;exact⟨s,h1,h2,h4⟩)), ?_⟩
  have e:m8 k way (nu (bare ⟨ng,rdN k^dgN k-1,(ai (rdN k:Int):Int)*gsI k⟩) ng).1 (nu (bare ⟨ng,rdN k^dgN k-1,(ai (rdN k:Int):Int)*gsI k⟩) ng).2.1 (nu (bare ⟨ng,rdN k^dgN k-1,(ai (rdN k:Int):Int)*gsI k⟩) ng).2.2.1 8=(fq (k:Int) 2 ng (Dg.dg 4294967296 (rdN k^dgN k-1)) (gsI k),8,0):=by
   have h1:(nu (bare ⟨ng,rdN k^dgN k-1,(ai (rdN k:Int):Int)*gsI k⟩) ng).1=2:=by unfold nu vI;rw[if_neg hb0]
   have h2:(nu (bare ⟨ng,rdN k^dgN k-1,(ai (rdN k:Int):Int)*gsI k⟩) ng).2.2.1=bare ⟨ng,rdN k^dgN k-1,(ai (rdN k:Int):Int)*gsI k⟩:=by unfold nu tF;rw[if_neg hb0]
   rw[h1,h2];refine hans.trans ?_;rw[hbs];rfl
  simp only;rw[e];exact hs
 ·rw[if_neg (by omega),if_neg (by omega)]
  rw[hf] at HF;exact⟨nthV k 8,fun w=>acC _ _ _ _ _ _ _ _ _ _ _ _ w HF (fun w1=>refNothing_any k hk w1),same_off hk way 8⟩
theorem div_ref {k:Nat}(hk:1≤k∧k≤8){way:Int}(hw:1≤way∧way≤5){a b:ByteArray}(ha:dF (k:Int) a=0)(hb:dF (k:Int) b=0)(h3:((bM (k:Int) a:Nat):Int)≤3∧((bM (k:Int) b:Nat):Int)≤3):
  ∃v,RefOf k way ((bM (k:Int) a:Nat):Int) ((bM (k:Int) b:Nat):Int) (dz (k:Int) a) (dz (k:Int) b) (opT (k:Int) a) (opT (k:Int) b) 27 v∧SameV k (m8 k way (Wl (k:Int) a b).1 (Wl (k:Int) a b).2.1 (Wl (k:Int) a b).2.2.1 (Wl (k:Int) a b).2.2.2) v:=by
 obtain⟨sa,za,na⟩:=ir hk ha;obtain⟨sb,zb,nb⟩:=ir hk hb;have ca:=zl ha;have cb:=zl hb;have ia:=fun h=>inf_few ha h
 have ib:=fun h=>inf_few hb h
 have ga:=fun h=>op_sign hk ha h
 have gb:=fun h=>op_sign hk hb h
 unfold Wl wu;rw[Int.toNat_natCast];generalize hcx:((bM (k:Int) a:Nat):Int)=cx at*;generalize hcy:((bM (k:Int) b:Nat):Int)=cy at*;generalize opT (k:Int) a=x at*;generalize opT (k:Int) b=y at*;generalize dz (k:Int) a=gx at*;generalize dz (k:Int) b=gy at*;have HO:=fun pb w1 (xo:Option Addr) (xc:Nat) (yo:Option Addr) (yc:Nat) (hl:au w1 pb 32 (yXL cx gx x xo xc cy gy y yo yc))=>(off_pair k hk _ _ _ _ _ _ _ _ _ _ pb w1 hl).1 h3
 by_cases l33:cx=3∧cy=3
 ·obtain⟨rfl,rfl⟩:=l33
  rw[if_pos (.inl ⟨rfl,rfl⟩)];exact⟨nthV k 16,fun xo xc yo yc w _ _=>abD _ _ _ _ _ _ _ _ _ _ _ w (fun pb w1 hl=>HO pb w1 xo xc yo yc hl) (fun w1=>lost_any k hk w1),same_off hk way 16⟩
 by_cases l11:cx=1∧cy=1
 ·obtain⟨rfl,rfl⟩:=l11
  rw[if_pos (.inr ⟨rfl,rfl⟩)];exact⟨nthV k 16,fun xo xc yo yc w _ _=>abE _ _ _ _ _ _ _ _ _ _ _ w (fun pb w1 hl=>HO pb w1 xo xc yo yc hl) (fun w1=>lost_any k hk w1),same_off hk way 16⟩
 rw[if_neg (by omega)]
 by_cases hx:cx=3
 ·subst hx
  rw[if_pos rfl];exact⟨(3,gx != gy,⟨false,0,0⟩,0),fun xo xc yo yc w _ _=>abF _ _ _ _ _ _ _ _ _ _ _ w (by simp;omega) (fun pb w1 hl=>HO pb w1 xo xc yo yc hl),same_inf hk (ia (by omega)) way _ _ 0⟩
 rw[if_neg hx]
 by_cases hy:cy=3
 ·subst hy
  rw[if_pos rfl];refine⟨(1,(gx != gy)&&decide (dK (k:Int)=1),⟨false,0,0⟩,0),fun xo xc yo yc w _ _=> ?_,same_nil hk way _ _ 0⟩
  by_cases h1:cx=1
  ·subst h1
   exact abG _ _ _ _ _ _ _ _ _ _ _ w (fun pb w1 hl=>HO pb w1 xo xc yo yc hl) (fun w1=>refZero_any k hk _ w1)
  ·exact abH _ _ _ _ _ _ _ _ _ _ _ _ w (by simpa using hx) (by simpa using h1) (fun pb w1 hl=>HO pb w1 xo xc yo yc hl) (fun w1=>refZero_any k hk _ w1)
 rw[if_neg hy]
 by_cases h2:cy=1
 ·subst h2
  rw[if_pos rfl];obtain⟨v,hv,hs⟩:=pole_any k hk way (gx != gy);exact⟨v,fun xo xc yo yc w _ _=>aav _ _ _ _ _ _ _ _ _ _ _ _ _ _ _ w (by simpa using hx) (by simp;omega) (fun pb w1 hl=>HO pb w1 xo xc yo yc hl) (fun w1=>hv w1),hs⟩
 rw[if_neg h2];have y0:=nb (by omega)
 by_cases h1:cx=1
 ·subst h1
  have e0:x=⟨false,0,0⟩:=za (by omega);have en:(cK x y 128).n=0:=by
   rw[e0]
   show 0*2^_/y.n*2+(if decide (0<0*2^_ % y.n)=true then 1 else 0)=0
   simp
  have e2:m8 k way (nu (cK x y 128) (gx != gy)).1 (nu (cK x y 128) (gx != gy)).2.1 (nu (cK x y 128) (gx != gy)).2.2.1 (nu (cK x y 128) (gx != gy)).2.2.2=m8 k way 1 (gx != gy) ⟨false,0,0⟩ 0:=by
   unfold nu vI xr tF;rw[if_pos en,if_pos en,if_pos en]
  rw[e2];exact⟨(1,(gx != gy)&&decide (dK (k:Int)=1),⟨false,0,0⟩,0),fun xo xc yo yc w _ _=>abI _ _ _ _ _ _ _ _ _ _ _ _ w (by simpa using hy) (by simpa using h2) (fun pb w1 hl=>HO pb w1 xo xc yo yc hl) (fun w1=>refZero_any k hk _ w1),same_nil hk way _ _ 0⟩
 have x0:=na (by omega);obtain⟨-,-,d1,-,-,-,lg,-,w64,-,-,hg⟩:=eR hk;obtain⟨o0,o1⟩:=D8 (R:=(rdN k:Int)) (D:=(dgN k:Int)) (L:=lsI k) (G:=gsI k) (gr:=decide (k≤3)) (s:=gx != gy) (way:=way) (a:=x) (b:=y) x0 y0 (by omega) (by rw[Int.toNat_natCast];exact w64);have hsg:(cK x y 128).s=(gx != gy):=by
  show(x.s != y.s)=_
  rw[ga (by omega),gb (by omega)]
 have e2:m8 k way (nu (cK x y 128) (gx != gy)).1 (nu (cK x y 128) (gx != gy)).2.1 (nu (cK x y 128) (gx != gy)).2.2.1 (nu (cK x y 128) (gx != gy)).2.2.2=m8 k way 2 (cK x y 128).s (cK x y 128) 0:=by
  unfold nu vI xr tF;rw[if_neg o0,if_neg o0,if_neg o0]
 rw[e2];refine⟨plV k way (fY k way (cK x y 128)),fun xo xc yo yc w rx ry=> ?_,same_fit hk way _ _ o0⟩
 have hp:fY k way (cK x y 128)=cI (rdN k:Int) (dgN k:Int) (lsI k) (gsI k) (decide (k≤3)) (gx != gy) x.n y.n (x.e-y.e) way:=by
  unfold fY;rw[hsg,o1]
 rw[hp];exact abJ _ _ _ _ (x.e-y.e) _ _ _ _ _ _ _ _ _ _ _ _ w (by simpa using hx) (by simpa using hy) (by simpa using h1) (by simpa using h2) (IntWalk.i64_in _ ⟨by have:=sa.2;have:=sb.2;omega,by have:=sa.2;have:=sb.2;omega⟩) (fun pb w1 hl=>HO pb w1 xo xc yo yc hl) (fun w1 b=>fitted_any k hk way hw (gx != gy) x.n y.n (x.e-y.e) xo yo xc yc w1 x0 y0 (rx.l b) (ry.l b) (Nat.le_trans (adR sa) (by omega)) (Nat.le_trans (adR sb) (by omega)) (by have:=sa.2;have:=sb.2;omega) (by have:=sa.2;have:=sb.2;omega))
theorem arithDivs_walk (n:Int)(a b:ByteArray)(way:Int)(w:World)(hT:Tab w):yC 6 #[yi n,.string a,.string b,yi way] w (yR w (.bool true)):=by
 have HB:=fun w1 (b:yB w w1)=>jx w1 (hT.l b)
 have HA:=fun w1 (b1:yB w w1)=>Jx n way a b w1 (hT.l b1)
 by_cases h:CK n way [a,b]=0
 rotate_left
 ·unfold mM at HA
  rw[rec_wrong _ h] at HA;exact aaA _ n way _ _ a b _ w (by simpa using h) HA (fun pb w1 hl=>open_err h (by simp) pb w1 hl) HB (fun w1 _=>aal n 0 _ 0 false ⟨false,0,0⟩ none 0 w1 (by simpa using h))
 obtain⟨k,hk,rfl,hf,he,hw⟩:=opn_right h;have ha:=eU he a (by simp);have hb:=eU he b (by simp);obtain⟨a1,a2,-,-⟩:=acu hk ha;obtain⟨b1,b2,-,-⟩:=acu hk hb;obtain⟨v,hv,hs⟩:=pair_pay hk hw he hf (Wl (k:Int) a b) 27 rfl rfl (fun c fl xo xc yo yc w HO=>abC _ _ _ _ _ _ _ _ _ _ _ _ _ _ w HO) (fun h3=>div_ref hk hw ha hb h3)
 refine ab3 _ _ _ _ _ _ _ (opT (k:Int) a) (opT (k:Int) b) v.2.2.1 (k:Int) way _ _ a b _ w HA (fun pb w1 hl=>(open_ok h (by simp) (by simp) pb w1 hl).mono (fun z w' hz=> ?_)) (fun xo xc yo yc w1 _ rx ry=>hv xo xc yo yc w1 rx ry) HB (fun so sc w1 _ hr=>pat_ok hs so sc w1 hr)
 obtain⟨gb,cap,e,hr,bl⟩:=hz;obtain⟨xo,xc,r0,k0⟩:=hr.each 0 a rfl;obtain⟨yo,yc,r1,k1⟩:=hr.each 1 b rfl;unfold rfC at r0 r1;rw[←a1,←a2] at r0;rw[←b1,←b2] at r1;rw[←a1] at k0;rw[←b1] at k1;exact⟨gb,cap,xo,xc,yo,yc,e,r0,r1,k0,k1,bl⟩
end Go.Proofs.YtnhackdjplppjaaGreatDoor

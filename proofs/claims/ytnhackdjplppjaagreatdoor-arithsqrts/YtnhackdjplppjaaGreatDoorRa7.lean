/-
  ArithSqrts, paid.
-/
import Derived.Test.YtnhackdjplppjaaGreatDoorUd03
namespace Go.Proofs.YtnhackdjplppjaaGreatDoor
open Go.RowKit
theorem plc_bare1 {k:Nat}(hk:1≤k∧k≤8)(way:Int)(t:ak)(h0:t.n≠0):fY k way (bare t)=fY k way t:=by
 obtain⟨-,-,d1,-,-,-,-,-,w64,-,-,-⟩:=eR hk;have hs:(bare t).s=t.s:=by unfold bare;rw[if_neg h0]
 unfold fY;rw[hs];exact round_bare t h0 (by omega) (by rw[Int.toNat_natCast];exact w64) t.s
theorem root_same {k:Nat}(hk:1≤k∧k≤8)(way:Int){x:ak}(h0:x.n≠0){sh R:Nat}{e:Int}(hsh:258≤sh)(he:2*e=x.e-sh)(hR:fJ (x.n*2^sh) 2 R):
  (bK x 128).n≠0∧(d8 false R e (decide (R*R<x.n*2^sh))).n≠0∧fY k way (d8 false R e (decide (R*R<x.n*2^sh)))=fY k way (bK x 128):=by
 obtain⟨-,-,d1,-,-,-,-,-,w64,-,-,-⟩:=eR hk;have hS:=BV x;have hev:=Au x 128;have h1:=qw (x.n*2^fu x 128);obtain⟨b1,b2,b3⟩:=uB x.n h0;have hge:256-bitLen x.n≤fu x 128:=by unfold fu;split<;>omega
 have hbig:2^128≤2*gG (x.n*2^fu x 128) 2:=by
  refine Bc h1 (by omega) ?_;refine Nat.le_trans (Nat.pow_le_pow_right (by omega) (show 2*128-2≤bitLen x.n-1+fu x 128 by omega)) ?_
  rw[Nat.pow_add];exact Nat.mul_le_mul_right _ b2
 have hL:=adU (s:=false) (e:=x.e) (x1:=(x.e-(fu x 128:Int))/2) (x2:=e) (d:=(sh-fu x 128)/2) (show sh=fu x 128+2*((sh-fu x 128)/2) by omega) h1 hR (by omega) he
 have n1:(bK x 128).n≠0:=by
  show gG (x.n*2^fu x 128) 2*2+(if _ then 1 else 0)≠0
  have:0<2^128:=bG 128;omega
 have hR0:R≠0:=fun c=>by
  have:=hR.2;rw[c,Nat.zero_add,Nat.one_pow] at this;have:0<x.n*2^sh:=Nat.mul_pos (Nat.pos_of_ne_zero h0) (bG _);omega
 have n2:(d8 false R e (decide (R*R<x.n*2^sh))).n≠0:=by
  show R*2+(if _ then 1 else 0)≠0
  omega
 refine⟨n1,n2, ?_⟩;have hbl:129≤bitLen (bK x 128).n:=Nat.le_of_not_lt fun c=>by
  have h2:=wZ (Nat.le_of_lt_succ c);have h3:gG (x.n*2^fu x 128) 2*2≤(bK x 128).n:=by
   show _≤gG (x.n*2^fu x 128) 2*2+(if _ then 1 else 0)
   omega
  omega
 have he1:(bK x 128).e=(x.e-(fu x 128:Int))/2-1:=rfl;have hr:=AC (R:=(rdN k:Int)) (D:=(dgN k:Int)) (L:=lsI k) (G:=gsI k) (gr:=decide (k≤3)) (qs:=false) (way:=way) n1 (by omega) n2 (by omega) (by omega) (by rw[Int.toNat_natCast];exact w64) hL.symm (by
  show(x.e-(fu x 128:Int))/2+64≤dY (bK x 128).n 1 (bK x 128).e
  rw[lU n1];omega)
 exact hr.symm
def RefOne (k:Nat)(wy:Int)(cx:Int)(gx:Bool)(x:ak)(F:Nat)(v:Int×Bool×ak×Int):Prop:=
 ∀xo xc w,Rd w .i64 (.slice xo (Dg.dg 65536 x.n).length xc) (Dg.dg 65536 x.n)→yC F #[yi (k:Int),yEV cx gx x xo xc,yi wy] w (RVF w v.1 v.2.1 v.2.2.1 v.2.2.2)
theorem off_one (k:Nat)(hk:1≤k∧k≤8)(cx:Int)(gx sx:Bool)(vx:Value)(ex:Int)(pb:Nat)(w:World)(hl:au w pb 32 (yoL cx gx sx vx ex)):
  (cx≤3→yC 58 #[yi (k:Int),.slice (some ⟨pb,0,none⟩) 1 1] w (yR w (.tuple #[yoV 0 false false (.slice none 0 0) 0,yi 0,.bool false])))∧
  (¬cx≤3→yC 58 #[yi (k:Int),.slice (some ⟨pb,0,none⟩) 1 1] w (yR w (.tuple #[yoV (AZ (dK (k:Int))) false false (.slice none 0 0) 0,yi (if dK (k:Int)=3 then 16 else 0),.bool true]))):=by
 have hc: ∀(i:Nat) c,[cx][i]? =some c→w.cell? ⟨pb,i*5,none⟩=some (yi c):=fun i c h=>by
  rcases i with- |i
  ·obtain rfl:cx=c:=by simpa using h
   exact hl.c 0 rfl
  ·simp at h
 obtain⟨h1,h2⟩:=off_row k hk [cx] pb w (by simp) hc;exact⟨fun h=>h1 (fun c hc=>by rw[List.mem_singleton.1 hc];exact h),fun h=>h2 ⟨0,cx,by omega,rfl,by omega⟩⟩
theorem sqrt_num {k:Nat}(hk:1≤k∧k≤8){way:Int}(hw:1≤way∧way≤5){cx:Int}{x:ak}(h1:cx≠1)(h3:cx≠3)(sa:iZ x)(h0:x.n≠0)
  (HO: ∀xo xc pb w1,au w1 pb 32 (yEL cx false x xo xc)→yC 58 #[yi (k:Int),.slice (some ⟨pb,0,none⟩) 1 1] w1 (yR w1 (.tuple #[yoV 0 false false (.slice none 0 0) 0,yi 0,.bool false]))):
  RefOne k way cx false x 31 (plV k way (fY k way (bK x 128))):=fun xo xc w rx=>by
 obtain⟨x1,x2,x3⟩:=sa;obtain⟨sh,e,hsh1,hsh2,he⟩: ∃(sh:Nat) (e:Int),300≤sh∧sh≤301∧2*e=x.e-sh:=by
  by_cases hp:(x.e-300) % 2=0
  ·exact⟨300,(x.e-300)/2,by omega,by omega,by omega⟩
  ·exact⟨301,(x.e-301)/2,by omega,by omega,by omega⟩
 have hR:=qw (x.n*2^sh);obtain⟨n1,n2,hpl⟩:=root_same hk way h0 (by omega) he hR;obtain⟨R,hRe⟩: ∃R,gG (x.n*2^sh) 2=R:=⟨_,rfl⟩;have hM:x.n*2^sh<2^ (64+sh):=by
  rw[Nat.pow_add];exact Nat.mul_lt_mul_of_pos_right x1 (bG _)
 have hM0:0<x.n*2^sh:=Nat.mul_pos (Nat.pos_of_ne_zero h0) (bG _);have hRM:R≤x.n*2^sh:=by rw[←hRe];exact OE _ _
 have len: ∀L:Nat,64+sh+2≤16*L→ ∀{z:Nat},z≤x.n*2^sh*2+1→(Dg.dg 65536 z).length≤L:=fun L hL {z} hz=>by
  refine Dg.dg_len_le 65536 z L (by omega) ?_;rw[show(65536:Nat)=2^16 from rfl,←Nat.pow_mul]
  refine Nat.lt_of_lt_of_le (show z<2^ (64+sh+2) from ?_) (Nat.pow_le_pow_right (by omega) hL)
  have:2^ (64+sh+2)=2^ (64+sh)*4:=by rw[Nat.pow_add]
  omega
 rw[hRe] at hR hpl n2;have hsq:R*R≤x.n*2^sh:=by have:=hR.1;rwa [Nat.pow_two] at this
 rw[←hpl,←plc_bare1 hk way _ n2];have v16: ∀z:Nat,Dg.vl 65536 (Dg.dg 65536 z)=z:=fun z=>Dg.vl_dg 65536 z (by omega)
 have s16: ∀z:Nat,Dg.Small 65536 (Dg.dg 65536 z):=fun z=>Dg.small_dg 65536 z (by omega)
 have m16: ∀z:Nat,Dg.Norm (Dg.dg 65536 z):=fun z=>Dg.norm_dg 65536 z (by omega)
 have HU: ∀w1,yB w w1→yC 74 #[.slice xo (Dg.dg 65536 x.n).length xc,yi (sh:Int)] w1 (cG w1 (x.n*2^sh)):=fun w1 b=>by
  have:=kD _ _ sh w1 (rx.l b) (s16 _) (Nat.le_trans (len 30 (by omega) (by have:=Nat.le_mul_of_pos_right x.n (bG sh);omega)) (by omega)) (by omega)
  rwa [v16] at this
 have HR: ∀mo mc w1,yB w w1→Rd w1 .i64 (.slice mo (Dg.dg 65536 (x.n*2^sh)).length mc) (Dg.dg 65536 (x.n*2^sh))→yC 75 #[.slice mo (Dg.dg 65536 (x.n*2^sh)).length mc,yi 2] w1 (cG w1 R):=fun mo mc w1 _ h=>by
  have:=Oz _ (x.n*2^sh) w1 h (Nat.le_trans (len 30 (by omega) (by omega)) (by omega)) hM0
  rwa [hRe] at this
 have two: ∀{q:Nat} {w1:World} {c:Nat},c<65536→au w1 q 3 [yi (c:Int)]→Rd w1 .i64 (.slice (some ⟨q,0,none⟩) 1 1) [c]:=fun {q w1 c} _ h=>⟨_,1,rfl,Nat.le_refl _,by unfold maxLen;omega,fun _=>⟨q,0,rfl,fun i hi=>by
  obtain rfl:i=0:=by simpa using hi
  exact h.c 0 rfl⟩⟩
 have HT: ∀ro rc q w1,yB w w1→Rd w1 .i64 (.slice ro (Dg.dg 65536 R).length rc) (Dg.dg 65536 R)→au w1 q 3 [yi 2]→yC 76 #[.slice ro (Dg.dg 65536 R).length rc,.slice (some ⟨q,0,none⟩) 1 1] w1 (cG w1 (R*2)):=fun ro rc q w1 _ h hl=>by
  have:=fN _ _ _ [2] w1 h (two (c:=2) (by omega) hl) (s16 R) (Dg.small_cons.2 ⟨by omega,Dg.small_nil _ (by omega)⟩) (Nat.le_trans (len 30 (by omega) (by omega)) (by omega)) (by simp)
  rwa [v16] at this
 have HS: ∀ro rc w1,yB w w1→Rd w1 .i64 (.slice ro (Dg.dg 65536 R).length rc) (Dg.dg 65536 R)→yC 76 #[.slice ro (Dg.dg 65536 R).length rc,.slice ro (Dg.dg 65536 R).length rc] w1 (cG w1 (R*R)):=fun ro rc w1 _ h=>by
  have:=fN _ _ _ _ w1 h h (s16 R) (s16 R) (Nat.le_trans (len 30 (by omega) (by omega)) (by omega)) (Nat.le_trans (len 30 (by omega) (by omega)) (by omega))
  rwa [v16] at this
 have HC: ∀po pc mo mc w1,yB w w1→Rd w1 .i64 (.slice po (Dg.dg 65536 (R*R)).length pc) (Dg.dg 65536 (R*R))→Rd w1 .i64 (.slice mo (Dg.dg 65536 (x.n*2^sh)).length mc) (Dg.dg 65536 (x.n*2^sh))→yC 77 #[.slice po (Dg.dg 65536 (R*R)).length pc,.slice mo (Dg.dg 65536 (x.n*2^sh)).length mc] w1 (yR w1 (yi (dm ((R*R:Nat):Int) ((x.n*2^sh:Nat):Int)))):=fun po pc mo mc w1 _ h1 h2=>by
  have:=fm _ _ _ _ w1 h1 h2 (s16 _) (s16 _) (m16 _) (m16 _)
  rwa [v16,v16] at this
 have HP: ∀d0 dc q w1,yB w w1→Rd w1 .i64 (.slice d0 (Dg.dg 65536 (R*2)).length dc) (Dg.dg 65536 (R*2))→au w1 q 3 [yi 1]→yC 78 #[.slice d0 (Dg.dg 65536 (R*2)).length dc,.slice (some ⟨q,0,none⟩) 1 1] w1 (cG w1 (R*2+1)):=fun d0 dc q w1 _ h hl=>by
  have:=ew _ _ _ [1] w1 h (two (c:=1) (by omega) hl) (s16 _) (Dg.small_cons.2 ⟨by omega,Dg.small_nil _ (by omega)⟩) (m16 _) (m16 1) (Nat.le_trans (len 30 (by omega) (by omega)) (by omega)) (by simp)
  rwa [v16] at this
 have HB: ∀z:Nat,z≤R*2+1→ ∀eo ec w1,yB w w1→Rd w1 .i64 (.slice eo (Dg.dg 65536 z).length ec) (Dg.dg 65536 z)→yC 79 #[ydV false (.slice eo (Dg.dg 65536 z).length ec) (e-1)] w1 (dr w1 (bare ⟨false,z,e-1⟩)):=fun z hz eo ec w1 _ h=>iJ _ ⟨false,z,e-1⟩ w1 ⟨_,rfl,h⟩ (show(Dg.dg 65536 z).length≤100000 from Nat.le_trans (len 30 (by omega) (by omega)) (by omega)) (by simp only;omega) (by simp only;omega)
 have HD: ∀z:Nat,z≠0→z≤R*2+1→ ∀uo uc w1,yB w w1→Rd w1 .i64 (.slice uo (Dg.dg 65536 (bare ⟨false,z,e-1⟩).n).length uc) (Dg.dg 65536 (bare ⟨false,z,e-1⟩).n)→yC 66 #[yi (k:Int),.agg #[.bool (bare ⟨false,z,e-1⟩).s,.slice uo (Dg.dg 65536 (bare ⟨false,z,e-1⟩).n).length uc,yi (bare ⟨false,z,e-1⟩).e],yi way] w1 (RVF w1 (plV k way (fY k way (bare ⟨false,z,e-1⟩))).1 (plV k way (fY k way (bare ⟨false,z,e-1⟩))).2.1 (plV k way (fY k way (bare ⟨false,z,e-1⟩))).2.2.1 (plV k way (fY k way (bare ⟨false,z,e-1⟩))).2.2.2):=fun z z0 hz uo uc w1 _ h=>by
  obtain⟨b1,b2,b3⟩:=gN (t:=⟨false,z,e-1⟩) z0;simp only at b2 b3;have hzb:bitLen z≤64+sh+2:=bF _ _ (by
   have:2^ (64+sh+2)=2^ (64+sh)*4:=by rw[Nat.pow_add]
   omega)
  exact fitD_any k hk way hw (bare ⟨false,z,e-1⟩) uo uc w1 b1 h (by omega) (by omega) (by omega)
 have i64: ∀z:Int,-100000≤z→z≤100000→IntKind.i64.wrap z=z:=fun z z1 z2=>IntWalk.i64_in _ ⟨by omega,by omega⟩
 have cm0:dm ((R*R:Nat):Int) ((x.n*2^sh:Nat):Int)=0↔ ¬R*R<x.n*2^sh:=by
  unfold dm
  split
  ·exact⟨fun c=>absurd c (by decide),fun c=>by omega⟩
  ·split
   ·exact⟨fun c=>absurd c (by decide),fun c=>by omega⟩
   ·exact⟨fun _=>by omega,fun _=>rfl⟩
 have hE:(IntKind.i64.wrap (x.e-300)=2*e∧(2*e).tmod 2=0)∨ ∃F,IntKind.i64.wrap (x.e-300)=F∧ ¬F.tmod 2=0∧IntKind.i64.wrap (F-1)=2*e:=by
  rw[i64 (x.e-300) (by omega) (by omega)]
  by_cases hp:sh=300
  ·exact .inl ⟨by omega,Int.mul_tmod_right 2 e⟩
  ·refine .inr ⟨_,rfl,fun c=> ?_,by rw[i64 _ (by omega) (by omega)];omega⟩
   have:=Int.tmod_add_mul_tdiv (x.e-300) 2;omega
 have hd:IntKind.i64.wrap (x.e-2*e)=(sh:Int):=by rw[i64 _ (by omega) (by omega)];omega
 have hq:IntKind.i64.wrap ((2*e).tdiv 2)=e:=by rw[Int.mul_tdiv_cancel_left e (by decide)];exact i64 _ (by omega) (by omega)
 by_cases hlt:R*R<x.n*2^sh
 ·have hcm:(dm ((R*R:Nat):Int) ((x.n*2^sh:Nat):Int)==0)=false:=by
   simpa using fun c=>(cm0.1 c) hlt
  have et:d8 false R e (decide (R*R<x.n*2^sh))=⟨false,R*2+1,e-1⟩:=by
   unfold d8;rw[if_pos (decide_eq_true hlt)]
  rw[et];exact refSqrt_num0 cx _ _ (2*e) (sh:Int) e (e-1) _ _ _ _ _ _ _ _ _ _ _ _ xo xc w rx (by simpa using h1) (by simpa using h3) hE hd hq (i64 _ (by omega) (by omega)) hcm (fun pb w1 hl=>HO xo xc pb w1 hl) HU HR HT HS HC HP (HB _ (by omega)) (HD _ (by omega) (by omega))
 ·rw[cm0.2 hlt] at HC
  have et:d8 false R e (decide (R*R<x.n*2^sh))=⟨false,R*2,e-1⟩:=by
   unfold d8;rw[if_neg (fun c=>hlt (of_decide_eq_true c)),Nat.add_zero]
  rw[et] at n2⊢;exact refSqrt_num1 cx _ _ (2*e) (sh:Int) e (e-1) _ _ _ _ _ _ _ _ _ _ xo xc w rx (by simpa using h1) (by simpa using h3) hE hd hq (i64 _ (by omega) (by omega)) (fun pb w1 hl=>HO xo xc pb w1 hl) HU HR HT HS HC (HB _ (by omega)) (HD _ n2 (by omega))
theorem sqrt_ref {k:Nat}(hk:1≤k∧k≤8){way:Int}(hw:1≤way∧way≤5){a:ByteArray}(ha:dF (k:Int) a=0)(h3:((bM (k:Int) a:Nat):Int)≤3):
  ∃v,RefOne k way ((bM (k:Int) a:Nat):Int) (dz (k:Int) a) (opT (k:Int) a) 31 v∧SameV k (m8 k way (Z6 (k:Int) a).1 (Z6 (k:Int) a).2.1 (Z6 (k:Int) a).2.2.1 (Z6 (k:Int) a).2.2.2) v:=by
 obtain⟨sa,za,na⟩:=ir hk ha;have ca:=zl ha;have ia:=fun h=>inf_few ha h
 have HO:=fun(xo:Option Addr) (xc:Nat) pb w1 (hl:au w1 pb 32 [yi ((bM (k:Int) a:Nat):Int),.bool (dz (k:Int) a),.bool (opT (k:Int) a).s,.slice xo (Dg.dg 65536 (opT (k:Int) a).n).length xc,yi (opT (k:Int) a).e])=>(off_one k hk _ _ _ _ _ pb w1 hl).1 h3
 unfold Z6 Dp;rw[Int.toNat_natCast];generalize hcx:((bM (k:Int) a:Nat):Int)=cx at*;generalize opT (k:Int) a=x at*;generalize dz (k:Int) a=gx at*
 by_cases h1:cx=1
 ·subst h1
  rw[if_pos rfl];exact⟨(1,gx&&decide (dK (k:Int)=1),⟨false,0,0⟩,0),fun xo xc w _=>refSqrt_zero _ _ _ _ _ _ _ w (fun pb w1 hl=>HO xo xc pb w1 hl) (fun w1=>refZero_any k hk _ w1),same_nil hk way _ _ 0⟩
 rw[if_neg h1]
 cases gx
 ·rw[if_neg (by decide)]
  by_cases hx:cx=3
  ·subst hx
   rw[if_pos rfl];obtain rfl:x=⟨false,0,0⟩:=za (by omega);exact⟨(3,false,⟨false,0,0⟩,0),fun xo xc w rx=>refSqrt_inf _ _ _ xo xc w rx (fun pb w1 hl=>HO xo xc pb w1 hl),same_inf hk (ia (by omega)) way _ _ 0⟩
  ·rw[if_neg hx]
   have x0:=na (by omega);have n1:(bK x 128).n≠0:=by
    obtain⟨e,he⟩| ⟨e,he⟩:(∃e:Int,2*e=x.e-((300:Nat):Int))∨(∃e:Int,2*e=x.e-((301:Nat):Int)):=by
     by_cases hp:(x.e-300) % 2=0
     ·exact .inl ⟨(x.e-300)/2,by omega⟩
     ·exact .inr ⟨(x.e-301)/2,by omega⟩
    ·exact(root_same hk way x0 (by omega) he (qw _)).1
    ·exact(root_same hk way x0 (by omega) he (qw _)).1
   have e2:m8 k way (nu (bK x 128) false).1 (nu (bK x 128) false).2.1 (nu (bK x 128) false).2.2.1 (nu (bK x 128) false).2.2.2=m8 k way 2 (bK x 128).s (bK x 128) 0:=by
    unfold nu vI xr tF;rw[if_neg n1,if_neg n1,if_neg n1]
   rw[e2];exact⟨_,sqrt_num hk hw h1 hx sa x0 HO,same_fit hk way _ _ n1⟩
 ·rw[if_pos rfl]
  exact⟨nthV k 16,fun xo xc w _=>refSqrt_neg _ _ _ _ _ _ _ w (by simpa using h1) (fun pb w1 hl=>HO xo xc pb w1 hl) (fun w1=>lost_any k hk w1),same_off hk way 16⟩
theorem arithSqrts_walk (n:Int)(a:ByteArray)(way:Int)(w:World)(hT:Tab w):yC 8 #[yi n,.string a,yi way] w (yR w (.bool true)):=by
 have HB:=fun w1 (b:yB w w1)=>jx w1 (hT.l b)
 have HA:=fun w1 (b1:yB w w1)=>OG n way a w1 (hT.l b1)
 by_cases h:CK n way [a]=0
 rotate_left
 ·unfold mM at HA
  rw[rec_wrong _ h] at HA;exact arithSqrts_err _ n way _ _ a _ w (by simpa using h) HA (fun pb w1 hl=>open_err h (by simp) pb w1 hl) HB (fun w1 _=>aal n 0 _ 0 false ⟨false,0,0⟩ none 0 w1 (by simpa using h))
 obtain⟨k,hk,rfl,hf,he,hw⟩:=opn_right h;have ha:=eU he a (by simp);obtain⟨a1,a2,-,-⟩:=acu hk ha;obtain⟨v,hv,hs⟩: ∃v,RefOne k way ((bM (k:Int) a:Nat):Int) (dz (k:Int) a) (opT (k:Int) a) 31 v∧SameV k (jV (k:Int) way [a] (Z6 (k:Int) a)) v:=by
  have hn:[a].any (dO (k:Int))=decide (¬((bM (k:Int) a:Nat):Int)≤3):=by
   have:=zl ha;simp only[List.any_cons,List.any_nil,Bool.or_false];unfold dO;rw[Bool.eq_iff_iff];simp;omega
  rw[rec_right _ hf he hw,hn]
  by_cases h3:((bM (k:Int) a:Nat):Int)≤3
  ·rw[if_neg (by rw[decide_eq_false (fun c=>c h3)];decide)]
   exact sqrt_ref hk hw ha h3
  ·rw[if_pos (decide_eq_true h3)]
   have hfl:(if dK (k:Int)=1 then(0:Int) else 16)=if dK (k:Int)=3 then 16 else 0:=by
    rcases qt hk with h|h|h
    ·rw[if_pos h,if_neg (by omega)]
    ·exfalso
     have:=hex_num hk h ha;omega
    ·rw[if_neg (by omega),if_pos h]
   rw[hfl];exact⟨nthV k (if dK (k:Int)=3 then 16 else 0),fun xo xc w _=>refSqrt_off _ _ _ _ _ _ _ _ _ w (fun pb w1 hl=>(off_one k hk _ _ _ _ _ pb w1 hl).2 h3),same_off hk way _⟩
 refine arithSqrts_ok _ _ _ _ _ (opT (k:Int) a) v.2.2.1 (k:Int) way _ _ a _ w HA (fun pb w1 hl=>(open_ok h (by simp) (by simp) pb w1 hl).mono (fun z w' hz=> ?_)) (fun xo xc w1 _ rx=>hv xo xc w1 rx) HB (fun so sc w1 _ hr=>pat_ok hs so sc w1 hr)
 obtain⟨gb,cap,e,hr,bl⟩:=hz;obtain⟨xo,xc,r0,k0⟩:=hr.each 0 a rfl;unfold rfC at r0;rw[←a1,←a2] at r0;rw[←a1] at k0;exact⟨gb,cap,xo,xc,e,r0,k0,bl⟩
end Go.Proofs.YtnhackdjplppjaaGreatDoor

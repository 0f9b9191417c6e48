/-
  ArithMuls, paid.
-/
import Derived.Test.YtnhackdjplppjaaGreatDoorUa03
namespace Go.Proofs.YtnhackdjplppjaaGreatDoor
open Go.RowKit
theorem plc_bare {k:Nat}(hk:1≤k∧k≤8)(way:Int)(t:ak)(h0:t.n≠0):fY k way (bare t)=fY k way t:=by
 obtain⟨-,-,d1,-,-,-,-,-,w64,-,-,-⟩:=eR hk;have hs:(bare t).s=t.s:=by unfold bare;rw[if_neg h0]
 unfold fY;rw[hs];exact round_bare t h0 (by omega) (by rw[Int.toNat_natCast];exact w64) t.s
theorem num_two {k:Nat}{t:ak}{sg:Bool}(h0:t.n≠0)(way:Int):m8 k way (nu t sg).1 (nu t sg).2.1 (nu t sg).2.2.1 (nu t sg).2.2.2=m8 k way 2 t.s t 0:=by
 unfold nu vI xr tF;rw[if_neg h0,if_neg h0,if_neg h0]
theorem num_nil {k:Nat}{t:ak}{sg:Bool}(h0:t.n=0)(way:Int):m8 k way (nu t sg).1 (nu t sg).2.1 (nu t sg).2.2.1 (nu t sg).2.2.2=m8 k way 1 sg ⟨false,0,0⟩ 0:=by
 unfold nu vI xr tF;rw[if_pos h0,if_pos h0,if_pos h0]
theorem mul_ref {k:Nat}(hk:1≤k∧k≤8){way:Int}(hw:1≤way∧way≤5){a b:ByteArray}(ha:dF (k:Int) a=0)(hb:dF (k:Int) b=0)(h3:((bM (k:Int) a:Nat):Int)≤3∧((bM (k:Int) b:Nat):Int)≤3):
  ∃v,RefOf k way ((bM (k:Int) a:Nat):Int) ((bM (k:Int) b:Nat):Int) (dz (k:Int) a) (dz (k:Int) b) (opT (k:Int) a) (opT (k:Int) b) 25 v∧SameV k (m8 k way (qL (k:Int) a b).1 (qL (k:Int) a b).2.1 (qL (k:Int) a b).2.2.1 (qL (k:Int) a b).2.2.2) v:=by
 obtain⟨sa,za,na⟩:=ir hk ha;obtain⟨sb,zb,nb⟩:=ir hk hb;have ca:=zl ha;have cb:=zl hb;have ia:=fun h=>inf_few ha h
 have ib:=fun h=>inf_few hb h
 have HO:=fun pb w1 (xo:Option Addr) (xc:Nat) (yo:Option Addr) (yc:Nat) (hl:au w1 pb 32 [yi ((bM (k:Int) a:Nat):Int),.bool (dz (k:Int) a),.bool (opT (k:Int) a).s,.slice xo (Dg.dg 65536 (opT (k:Int) a).n).length xc,yi (opT (k:Int) a).e,yi ((bM (k:Int) b:Nat):Int),.bool (dz (k:Int) b),.bool (opT (k:Int) b).s,.slice yo (Dg.dg 65536 (opT (k:Int) b).n).length yc,yi (opT (k:Int) b).e])=>(off_pair k hk _ _ _ _ _ _ _ _ _ _ pb w1 hl).1 h3
 unfold qL mK;rw[Int.toNat_natCast];generalize hcx:((bM (k:Int) a:Nat):Int)=cx at*;generalize hcy:((bM (k:Int) b:Nat):Int)=cy at*;generalize opT (k:Int) a=x at*;generalize opT (k:Int) b=y at*;generalize dz (k:Int) a=gx at*;generalize dz (k:Int) b=gy at*
 by_cases l31:cx=3∧cy=1
 ·obtain⟨rfl,rfl⟩:=l31
  rw[if_pos (.inl ⟨rfl,rfl⟩)];exact⟨nthV k 16,fun xo xc yo yc w _ _=>abv _ _ _ _ _ _ _ _ _ _ _ w (fun pb w1 hl=>HO pb w1 xo xc yo yc hl) (fun w1=>lost_any k hk w1),same_off hk way 16⟩
 by_cases l13:cx=1∧cy=3
 ·obtain⟨rfl,rfl⟩:=l13
  rw[if_pos (.inr ⟨rfl,rfl⟩)];exact⟨nthV k 16,fun xo xc yo yc w _ _=>abw _ _ _ _ _ _ _ _ _ _ _ w (fun pb w1 hl=>HO pb w1 xo xc yo yc hl) (fun w1=>lost_any k hk w1),same_off hk way 16⟩
 rw[if_neg (by omega)]
 by_cases hx:cx=3
 ·subst hx
  rw[if_pos (.inl rfl)];exact⟨(3,gx != gy,⟨false,0,0⟩,0),fun xo xc yo yc w _ _=>abx _ _ _ _ _ _ _ _ _ _ _ w (by simp;omega) (fun pb w1 hl=>HO pb w1 xo xc yo yc hl),same_inf hk (ia (by omega)) way _ _ 0⟩
 by_cases hy:cy=3
 ·subst hy
  rw[if_pos (.inr rfl)];exact⟨(3,gx != gy,⟨false,0,0⟩,0),fun xo xc yo yc w _ _=>aby _ _ _ _ _ _ _ _ _ _ _ w (by simpa using hx) (by simp;omega) (fun pb w1 hl=>HO pb w1 xo xc yo yc hl),same_inf hk (ib (by omega)) way _ _ 0⟩
 rw[if_neg (by omega)]
 by_cases h1:cx=1
 ·subst h1
  have e0:x=⟨false,0,0⟩:=za (by omega);have en:(aK x y).n=0:=by rw[e0];exact Nat.zero_mul _
  rw[num_nil en];exact⟨(1,(gx != gy)&&decide (dK (k:Int)=1),⟨false,0,0⟩,0),fun xo xc yo yc w _ _=>abz _ _ _ _ _ _ _ _ _ _ _ _ w (by simpa using hy) (fun pb w1 hl=>HO pb w1 xo xc yo yc hl) (fun w1=>refZero_any k hk _ w1),same_nil hk way _ _ 0⟩
 by_cases h2:cy=1
 ·subst h2
  have e0:y=⟨false,0,0⟩:=zb (by omega);have en:(aK x y).n=0:=by rw[e0];exact Nat.mul_zero _
  rw[num_nil en];exact⟨(1,(gx != gy)&&decide (dK (k:Int)=1),⟨false,0,0⟩,0),fun xo xc yo yc w _ _=>abA _ _ _ _ _ _ _ _ _ _ _ _ w (by simpa using hx) (by simpa using h1) (fun pb w1 hl=>HO pb w1 xo xc yo yc hl) (fun w1=>refZero_any k hk _ w1),same_nil hk way _ _ 0⟩
 have x0:=na (by omega);have y0:=nb (by omega);have t0:(aK x y).n≠0:=Nat.mul_ne_zero x0 y0;obtain⟨-,-,tl,te1,te2⟩:=rJ sa sb;have hbl:=bF _ _ tl;obtain⟨b1,b2,b3⟩:=gN t0;have htz:tz (aK x y).n≤128:=by
  have:bitLen (bare (aK x y)).n+tz (aK x y).n=bitLen (aK x y).n:=by omega
  omega
 rw[num_two t0];refine⟨plV k way (fY k way (aK x y)),fun xo xc yo yc w rx ry=> ?_,same_fit hk way _ _ t0⟩
 rw[←plc_bare hk way _ t0];have hl16: ∀{z:ak},iZ z→(Dg.dg 65536 z.n).length≤30000:=fun {z} hz=>Nat.le_trans (Dg.dg_len_le 65536 _ 4 (by omega) (Nat.lt_of_lt_of_le hz.1 (by decide))) (by omega)
 refine abB _ _ _ _ _ _ (bare (aK x y)) _ _ _ _ _ _ _ _ _ _ w (by simpa using hx) (by simpa using hy) (by simpa using h1) (by simpa using h2) (fun pb w1 hl=>HO pb w1 xo xc yo yc hl) (fun w1 b=>jh _ _ x y w1 ⟨_,rfl,rx.l b⟩ ⟨_,rfl,ry.l b⟩ (hl16 sa) (hl16 sb) (by have:=sa.2;omega) (by have:=sa.2;omega) (by have:=sb.2;omega) (by have:=sb.2;omega)) (fun uo uc w1 b h=>fitD_any k hk way hw (bare (aK x y)) uo uc w1 b1 h (by omega) (by omega) (by omega))
theorem arithMuls_walk (n:Int)(a b:ByteArray)(way:Int)(w:World)(hT:Tab w):yC 5 #[yi n,.string a,.string b,yi way] w (yR w (.bool true)):=by
 have HB:=fun w1 (b:yB w w1)=>jx w1 (hT.l b)
 have HA:=fun w1 (b1:yB w w1)=>AN n way a b w1 (hT.l b1)
 by_cases h:CK n way [a,b]=0
 rotate_left
 ·unfold mM at HA
  rw[rec_wrong _ h] at HA;exact aaz _ n way _ _ a b _ w (by simpa using h) HA (fun pb w1 hl=>open_err h (by simp) pb w1 hl) HB (fun w1 _=>aal n 0 _ 0 false ⟨false,0,0⟩ none 0 w1 (by simpa using h))
 obtain⟨k,hk,rfl,hf,he,hw⟩:=opn_right h;have ha:=eU he a (by simp);have hb:=eU he b (by simp);obtain⟨a1,a2,-,-⟩:=acu hk ha;obtain⟨b1,b2,-,-⟩:=acu hk hb;obtain⟨v,hv,hs⟩:=pair_pay hk hw he hf (qL (k:Int) a b) 25 rfl rfl (fun c fl xo xc yo yc w HO=>abu _ _ _ _ _ _ _ _ _ _ _ _ _ _ w HO) (fun h3=>mul_ref hk hw ha hb h3)
 refine ab2 _ _ _ _ _ _ _ (opT (k:Int) a) (opT (k:Int) b) v.2.2.1 (k:Int) way _ _ a b _ w HA (fun pb w1 hl=>(open_ok h (by simp) (by simp) pb w1 hl).mono (fun z w' hz=> ?_)) (fun xo xc yo yc w1 _ rx ry=>hv xo xc yo yc w1 rx ry) HB (fun so sc w1 _ hr=>pat_ok hs so sc w1 hr)
 obtain⟨gb,cap,e,hr,bl⟩:=hz;obtain⟨xo,xc,r0,k0⟩:=hr.each 0 a rfl;obtain⟨yo,yc,r1,k1⟩:=hr.each 1 b rfl;unfold rfC at r0 r1;rw[←a1,←a2] at r0;rw[←b1,←b2] at r1;rw[←a1] at k0;rw[←b1] at k1;exact⟨gb,cap,xo,xc,yo,yc,e,r0,r1,k0,k1,bl⟩
end Go.Proofs.YtnhackdjplppjaaGreatDoor

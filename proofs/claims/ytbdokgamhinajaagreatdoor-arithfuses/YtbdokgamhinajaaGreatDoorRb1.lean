/-
  ArithFuses, paid.
-/
import Derived.Test.YtbdokgamhinajaaGreatDoorVf02
namespace Go.Proofs.YtbdokgamhinajaaGreatDoor
open Go.RowKit
def RefOf3 (k:Nat)(wy:Int)(cx cy cz:Int)(gx gy gz:Bool)(x y z:ak)(F:Nat)(v:Int×Bool×ak×Int):Prop:=
 ∀xo xc yo yc zo zc w,Rd w .i64 (yS xo x.n xc) (Dg.dg 65536 x.n)→Rd w .i64 (yS yo y.n yc) (Dg.dg 65536 y.n)→Rd w .i64 (yS zo z.n zc) (Dg.dg 65536 z.n)→yC F #[yi k,yEV cx gx x xo xc,yEV cy gy y yo yc,yEV cz gz z zo zc,yi wy] w (RVF w v.1 v.2.1 v.2.2.1 v.2.2.2)
theorem off_three (k:Nat)(hk:1≤k∧k≤8)(cx cy cz:Int)(gx gy gz sx sy sz:Bool)(vx vy vz:Value)(ex ey ez:Int)(pb:Nat)(w:World)(hl:au w pb 32 [yi cx,.bool gx,.bool sx,vx,yi ex,yi cy,.bool gy,.bool sy,vy,yi ey,yi cz,.bool gz,.bool sz,vz,yi ez]):
  (cx≤3∧cy≤3∧cz≤3→yC 34 #[yi k,.slice (some ⟨pb,0,none⟩) 3 3] w (yR w (.tuple #[yoV 0 false false yN 0,yi 0,.bool false])))∧
  (¬(cx≤3∧cy≤3∧cz≤3)→yC 34 #[yi k,.slice (some ⟨pb,0,none⟩) 3 3] w (yR w (.tuple #[yoV (AZ (dK k)) false false yN 0,yi (if dK k=3 then 16 else 0),.bool true]))):=by
 have hc: ∀(i:Nat) c,[cx,cy,cz][i]? =some c→w.cell? ⟨pb,i*5,none⟩=some (yi c):=fun i c h=>by
  rcases i with- | - | - |i
  ·obtain rfl:cx=c:=by simpa using h
   exact hl.c 0 rfl
  ·obtain rfl:cy=c:=by simpa using h
   exact hl.c 5 rfl
  ·obtain rfl:cz=c:=by simpa using h
   exact hl.c 10 rfl
  ·simp at h
 obtain⟨h1,h2⟩:=off_row k hk [cx,cy,cz] pb w (by simp) hc;refine⟨fun h=>h1 (fun c hc=>by
  simp only[List.mem_cons,List.not_mem_nil,or_false] at hc;omega),fun h=>h2 ?_⟩
 by_cases c:cx≤3
 ·by_cases d:cy≤3
  ·exact⟨2,cz,by omega,rfl,by omega⟩
  ·exact⟨1,cy,by omega,rfl,by omega⟩
 ·exact⟨0,cx,by omega,rfl,by omega⟩
theorem prodV_no {k:Nat}{cx cy:Int}{gx gy:Bool}{x y:ak}(h:cx=3∧cy=1∨cx=1∧cy=3):mK k cx gx x cy gy y=noV k 16:=if_pos h
theorem plus_bareL (t z:ak):bare (aG (bare t) z)=bare (aG (tF t) z):=by
 unfold tF
 by_cases h:t.n=0
 ·rw[if_pos h,bare_0 h]
 ·rw[if_neg h]
  have k0: -((t.e.natAbs+z.e.natAbs:Nat):Int)≤t.e:=by omega
  have k1: -((t.e.natAbs+z.e.natAbs:Nat):Int)≤z.e:=by omega
  refine fH (eS (eL k0) k1) (eS k0 k1) ?_;rw[dH (eL k0) k1,dH k0 k1,dw k0]
theorem fused_ref {k:Nat}(hk:1≤k∧k≤8){way:Int}(hw:1≤way∧way≤5){a b c:ByteArray}(ha:dF k a=0)(hb:dF k b=0)(hc:dF k c=0)(h3:((bM k a:Nat):Int)≤3∧((bM k b:Nat):Int)≤3∧((bM k c:Nat):Int)≤3):
  ∃v,RefOf3 k way ((bM k a:Nat):Int) ((bM k b:Nat):Int) ((bM k c:Nat):Int) (dz k a) (dz k b) (dz k c) (opT k a) (opT k b) (opT k c) 16 v∧SameV k (m8 k way (OY k way a b c).1 (OY k way a b c).2.1 (OY k way a b c).2.2.1 (OY k way a b c).2.2.2) v:=by
 obtain⟨sa,za,pa,ia⟩:=op_facts hk ha;obtain⟨sb,zb,pb,ib⟩:=op_facts hk hb;obtain⟨sc,zc,pc,ic⟩:=op_facts hk hc;unfold OY qL;rw[Int.toNat_natCast];generalize((bM k a:Nat):Int)=cx at*;generalize((bM k b:Nat):Int)=cy at*;generalize((bM k c:Nat):Int)=cz at*;generalize opT k a=x at*;generalize opT k b=y at*;generalize opT k c=z at*;generalize dz k a=gx at*;generalize dz k b=gy at*;generalize dz k c=gz at*;have HO:=fun pb w1 (xo:Option Addr) (xc:Nat) (yo:Option Addr) (yc:Nat) (zo:Option Addr) (zc:Nat) (hl:au w1 pb 32 [yi cx,.bool gx,.bool x.s,yS xo x.n xc,yi x.e,yi cy,.bool gy,.bool y.s,yS yo y.n yc,yi y.e,yi cz,.bool gz,.bool z.s,yS zo z.n zc,yi z.e])=>(off_three k hk _ _ _ _ _ _ _ _ _ _ _ _ _ _ _ pb w1 hl).1 h3
 by_cases l31:cx=3∧cy=1
 ·obtain⟨rfl,rfl⟩:=l31
  rw[prodV_no (.inl ⟨rfl,rfl⟩),if_neg (show¬(noV k 16).2.2.2=0 from show¬(16:Int)=0 by decide)]
  exact⟨nthV k 16,fun xo xc yo yc zo zc w _ _ _=>Zh _ _ _ _ _ _ _ _ _ _ _ _ _ _ _ _ w (fun pb w1 hl=>HO pb w1 xo xc yo yc zo zc hl) (fun w1=>lost_any k hk w1),same_off hk way 16⟩
 by_cases l13:cx=1∧cy=3
 ·obtain⟨rfl,rfl⟩:=l13
  rw[prodV_no (.inr ⟨rfl,rfl⟩),if_neg (show¬(noV k 16).2.2.2=0 from show¬(16:Int)=0 by decide)]
  exact⟨nthV k 16,fun xo xc yo yc zo zc w _ _ _=>Zi _ _ _ _ _ _ _ _ _ _ _ _ _ _ _ _ w (fun pb w1 hl=>HO pb w1 xo xc yo yc zo zc hl) (fun w1=>lost_any k hk w1),same_off hk way 16⟩
 by_cases hi:cx=3∨cy=3
 ·have e:mK k cx gx x cy gy y=(3,gx != gy,⟨false,0,0⟩,0):=by
   unfold mK;rw[if_neg (by omega),if_pos hi]
  rw[e,if_pos (show((3,gx != gy,⟨false,0,0⟩,0):Int×Bool×ak×Int).2.2.2=0 from rfl)]
  obtain⟨v,hv,hs⟩:=add_ref hk hw (cx:=3) (cy:=cz) (gx:=gx != gy) (gy:=gz) (x:=⟨false,0,0⟩) (y:=z) (x':=⟨false,0,0⟩) (y':=z) ⟨by omega,h3.2.2⟩ rfl ⟨bG _,by show(-16500:Int)≤0;omega,by show(0:Int)≤16500;omega⟩ sc (fun _=>rfl) zc (fun c=>absurd rfl c) pc (fun _=>hi.elim ia ib) ic
  have hA:=fun zo zc w1 (r:Rd w1 .i64 (yS zo z.n zc) (Dg.dg 65536 z.n))=>hv none 0 zo zc w1 (aN w1 .i64) r
  refine⟨v,fun xo xc yo yc zo zc w _ _ rz=> ?_,hs⟩
  by_cases hx:cx=3
  ·subst hx
   exact Zj _ _ _ _ _ _ _ _ _ _ _ _ _ _ _ _ _ _ _ _ w (ne1 (by omega)) (fun pb w1 hl=>HO pb w1 xo xc yo yc zo zc hl) (fun w1 b=>hA zo zc w1 (rz.l b))
  ·obtain rfl:cy=3:=hi.resolve_left hx
   exact Zk _ _ _ _ _ _ _ _ _ _ _ _ _ _ _ _ _ _ _ _ w (ne3 hx) (ne1 (by omega)) (fun pb w1 hl=>HO pb w1 xo xc yo yc zo zc hl) (fun w1 b=>hA zo zc w1 (rz.l b))
 have hx:cx≠3:=fun c=>hi (.inl c)
 have hy:cy≠3:=fun c=>hi (.inr c)
 have e:mK k cx gx x cy gy y=nu (aK x y) (gx != gy):=by
  unfold mK;rw[if_neg (by omega),if_neg hi]
 have hg:(aK x y).n≠0→(aK x y).s=(gx != gy):=fun h=>by
  have hx0:x.n≠0:=fun c=>h (by show x.n*y.n=0;rw[c,Nat.zero_mul])
  have hy0:y.n≠0:=fun c=>h (by show x.n*y.n=0;rw[c,Nat.mul_zero])
  show(x.s != y.s)=_
  rw[pa hx0,pb hy0]
 have h1:(nu (aK x y) (gx != gy)).1≠3:=by
  show vI _≠3
  unfold vI
  split<;>omega
 have h2:(nu (aK x y) (gx != gy)).2.1=(gx != gy):=by
  show xr _ _=_
  unfold xr
  split
  ·rfl
  ·next h=>exact hg h
 rw[e,if_pos (show(nu (aK x y) (gx != gy)).2.2.2=0 from rfl)]
 by_cases hz:cz=3
 ·subst hz
  rw[Wy h1 rfl];exact⟨(3,gz,z,0),fun xo xc yo yc zo zc w _ _ rz=>abO _ _ _ _ _ _ _ _ _ _ _ _ _ _ _ _ w (ne3 hx) (ne3 hy) (fun pb w1 hl=>HO pb w1 xo xc yo yc zo zc hl) rz,by rw[zc rfl];exact same_inf hk (ic rfl) way _ _ 0⟩
 rw[OZ h1 hz,h2];obtain⟨-,-,tl,te1,te2⟩:=rJ sa sb;have hb2:(bare (aK x y)).n<2^128∧ -33000≤(bare (aK x y)).e∧(bare (aK x y)).e≤33200∧((bare (aK x y)).n≠0→(bare (aK x y)).s=(gx != gy)):=by
  by_cases h0:(aK x y).n=0
  ·rw[bare_0 h0]
   exact⟨bG _,by show(-33000:Int)≤0;omega,by show(0:Int)≤33200;omega,fun c=>absurd rfl c⟩
  ·obtain⟨b1,b2,b3⟩:=gN h0
   have hbl:=bF _ _ tl;refine⟨Nat.lt_of_le_of_lt (kR _) tl,by omega,by omega,fun _=> ?_⟩
   rw[←hg h0];unfold bare;rw[if_neg h0]
 obtain⟨v,hv,hs⟩:=sum_ref hk hw (gx != gy) gz (plus_bareL (aK x y) z) hb2.2.2.2 pc hb2.1 sc.1 ⟨hb2.2.1,hb2.2.2.1⟩ sc.2;have hl16: ∀{z:ak},iZ z→(Dg.dg 65536 z.n).length≤30000:=fun {z} hz=>Nat.le_trans (Dg.dg_len_le 65536 _ 4 (by omega) (Nat.lt_of_lt_of_le hz.1 (by decide))) (by omega)
 exact⟨v,fun xo xc yo yc zo zc w rx ry rz=>Zl _ _ _ _ _ _ _ (bare (aK x y)) _ _ _ _ _ _ _ _ _ _ _ _ _ _ w (ne3 hx) (ne3 hy) (ne3 hz) (fun pb w1 hl=>HO pb w1 xo xc yo yc zo zc hl) (fun w1 b=>jh _ _ x y w1 ⟨_,rfl,rx.l b⟩ ⟨_,rfl,ry.l b⟩ (hl16 sa) (hl16 sb) (by have:=sa.2;omega) (by have:=sa.2;omega) (by have:=sb.2;omega) (by have:=sb.2;omega)) (fun uo uc w1 b h=>hv uo uc zo zc w1 h (rz.l b)),hs⟩
theorem fuses_pay {k:Nat}(hk:1≤k∧k≤8){way:Int}{a b c:ByteArray}(hw:1≤way∧way≤5)(he:fT k [a,b,c]=0)(hf:dK k≠0):
  ∃v,RefOf3 k way ((bM k a:Nat):Int) ((bM k b:Nat):Int) ((bM k c:Nat):Int) (dz k a) (dz k b) (dz k c) (opT k a) (opT k b) (opT k c) 16 v∧SameV k (jV k way [a,b,c] (OY k way a b c)) v:=by
 have ha:=eU he a (by simp);have hb:=eU he b (by simp);have hc:=eU he c (by simp);have i1:=zl ha;have i2:=zl hb;have i3:=zl hc;have hN:[a,b,c].any (dO k)=decide (¬(((bM k a:Nat):Int)≤3∧((bM k b:Nat):Int)≤3∧((bM k c:Nat):Int)≤3)):=by
  simp only[List.any_cons,List.any_nil,Bool.or_false];unfold dO;rw[Bool.eq_iff_iff];simp;omega
 rw[rec_right _ hf he hw,hN]
 by_cases h3:((bM k a:Nat):Int)≤3∧((bM k b:Nat):Int)≤3∧((bM k c:Nat):Int)≤3
 ·rw[if_neg (by rw[decide_eq_false (fun c=>c h3)];decide)]
  exact fused_ref hk hw ha hb hc h3
 ·rw[if_pos (decide_eq_true h3)]
  have hfl:(if dK k=1 then(0:Int) else 16)=if dK k=3 then 16 else 0:=by
   rcases qt hk with h|h|h
   ·rw[if_pos h,if_neg (by omega)]
   ·exfalso
    have:=hex_num hk h ha;have:=hex_num hk h hb;have:=hex_num hk h hc;omega
   ·rw[if_neg (by omega),if_pos h]
  rw[hfl];exact⟨nthV k (if dK k=3 then 16 else 0),fun xo xc yo yc zo zc w _ _ _=>Zg _ _ _ _ _ _ _ _ _ _ _ _ _ _ _ _ _ _ _ w (fun pb w1 hl=>(off_three k hk _ _ _ _ _ _ _ _ _ _ _ _ _ _ _ pb w1 hl).2 h3),same_off hk way _⟩
theorem arithFuses_walk (n:Int)(a b c:ByteArray)(way:Int)(w:World)(hT:Tab w):yC 5 #[yi n,.string a,.string b,.string c,yi way] w (yR w (.bool true)):=by
 have HB:=fun w1 (b:yB w w1)=>jx w1 (hT.l b)
 have HA:=fun w1 (b1:yB w w1)=>xR n way a b c w1 (hT.l b1)
 by_cases h:CK n way [a,b,c]=0
 rotate_left
 ·unfold mM at HA
  rw[rec_wrong _ h] at HA;exact arithFuses_err _ n way _ _ a b c _ w (by simpa using h) HA (fun pb w1 hl=>open_err h (by simp) pb w1 hl) HB (fun w1 _=>aal n 0 _ 0 false ⟨false,0,0⟩ none 0 w1 (by simpa using h))
 obtain⟨k,hk,rfl,hf,he,hw⟩:=opn_right h;obtain⟨a1,a2,-,-⟩:=acu hk (eU he a (by simp));obtain⟨b1,b2,-,-⟩:=acu hk (eU he b (by simp));obtain⟨c1,c2,-,-⟩:=acu hk (eU he c (by simp));obtain⟨v,hv,hs⟩:=fuses_pay hk hw he hf;refine arithFuses_ok _ _ _ _ _ _ _ _ _ (opT (k:Int) a) (opT (k:Int) b) (opT (k:Int) c) v.2.2.1 (k:Int) way _ _ a b c _ w HA (fun pb w1 hl=>(open_ok h (by simp) (by simp) pb w1 hl).mono (fun z w' hz=> ?_)) (fun xo xc yo yc zo zc w1 _ rx ry rz=>hv xo xc yo yc zo zc w1 rx ry rz) HB (fun so sc w1 _ hr=>pat_ok hs so sc w1 hr)
 obtain⟨gb,cap,e,hr,bl⟩:=hz;obtain⟨xo,xc,r0,k0⟩:=hr.each 0 a rfl;obtain⟨yo,yc,r1,k1⟩:=hr.each 1 b rfl;obtain⟨zo,zc,r2,k2⟩:=hr.each 2 c rfl;unfold rfC at r0 r1 r2;rw[←a1,←a2] at r0;rw[←b1,←b2] at r1;rw[←c1,←c2] at r2;rw[←a1] at k0;rw[←b1] at k1;rw[←c1] at k2;exact⟨gb,cap,xo,xc,yo,yc,zo,zc,e,r0,r1,r2,k0,k1,k2,bl⟩
end Go.Proofs.YtbdokgamhinajaaGreatDoor

/-
  Series: the walk of SeriesMachin, paid.
-/
import Derived.Test.YtiakgfmlpdfhdaaGreatDoorTa41
import Derived.Test.YtiakgfmlpdfhdaaGreatDoorTa28
import Derived.Test.YtiakgfmlpdfhdaaGreatDoorTa27
set_option maxRecDepth 100000
namespace Go.Proofs.YtiakgfmlpdfhdaaGreatDoor
open _root_.Go.Proofs.Tryz
open Go.RowKit
def EndB (E:Int)(t:ak):Prop:= -1120≤t.e∧t.e≤E∧t.n<2^1000
def BareB (l h:ak):Prop:=(∃y,l=bare y)∧(∃y,h=bare y)
def InB (E:Int)(Y:Int)(l h:ak):Prop:=EndB E l∧EndB E h∧V 1120 l≤Y∧Y≤V 1120 h
theorem inB_good {X b:Nat}{l h:ak}(hG:GoodB X b l h):InB 9000 X l h∧BareB l h:=by
 obtain⟨b1,b2,h1,h2,-,g2,g3,-⟩:=hG;exact⟨⟨h1,h2,g2,g3⟩,b1,b2⟩
theorem endB_chk {E:Int}{t:ak}(h:EndB E t)(hE:E≤20000):aS (Dg.dg 4294967296 t.n) t.e=0:=by
 obtain⟨h1,h2,h3⟩:=h;have hl:=dyad_lenS h3;have k1:chk (Dg.dg 4294967296 t.n)=0:=chk_ofS (Dg.norm_dg _ _ (by omega)) (by omega);unfold aS;rw[if_pos k1,if_neg (by omega)]
theorem inB_chk {E Y:Int}{l h:ak}(hI:InB E Y l h)(hE:E≤20000):cu l.s (Dg.dg 4294967296 l.n) l.e h.s (Dg.dg 4294967296 h.n) h.e=0:=by
 obtain⟨il,ih,v1,v2⟩:=hI;have d1:=endB_chk il hE;have d2:=endB_chk ih hE;have d3:dQ (Dg.dg 4294967296 l.n) l.e (Dg.dg 4294967296 h.n) h.e=0:=by unfold dQ;rw[if_pos d1,d2]
 have hpq: ¬0<bJ l h:=fun c=>by
  have:=(ol (K:=1120) (a:=l) (b:=h) (by have:=il.1;omega) (by have:=ih.1;omega)).1 c;omega
 unfold cu;rw[if_pos d3,Dg.vl_dg _ _ (by omega),Dg.vl_dg _ _ (by omega),if_neg (show¬0<dJ (aG l (dV h)) from hpq)]
theorem wrong2_ok {n c d:Int}(hc:c=0)(hd:d=0)(h1:1≤n)(h2:n≤4096):cW n c d=0:=by
 unfold cW kj Vr;rw[if_pos hc,if_pos hd]
 split
 ·omega
 ·rfl
theorem end_cut {E:Int}{A:ak}{n:Nat}(up:Bool)(h1: -1120≤A.e)(h2:A.e+(bitLen A.n:Int)≤E)(h3:0≤E)(hn:1≤n∧n≤1000):EndB E (bare (aY A n up)):=by
 obtain⟨e1,e2⟩:=FQ (b:=(n:Int)) (up:=up) (by omega) h1 h2 (by omega) h3;have hl:=mi A n up (by omega);rw[Int.toNat_natCast] at hl;exact⟨e1,e2,Nat.lt_of_lt_of_le hl (two_mono (b:=1000) hn.2)⟩
theorem end_short {E:Int}{A:ak}{n:Nat}{up:Bool}(h:EndB E (bare (aY A n up)))(hE:E≤20000)(hn:1≤n∧n≤1000):bU (aY A n up)=(bare (aY A n up),0):=by
 obtain⟨h1,h2,-⟩:=h;have hl:=mi A n up (by omega);rw[Int.toNat_natCast] at hl;exact short_is hn.2 hl (by omega) (by omega)
theorem least_in {x:Nat→ak}{n:Nat}{E Y:Int}(hn:1≤n∧n≤1000)(h0:0≤E)(hE:E≤20000)(hx: ∀j,j≤3→ -1120≤(x j).e∧(x j).e+(bitLen (x j).n:Int)≤E)(hl: ∃j,j≤3∧V 1120 (x j)≤Y)(hh: ∃j,j≤3∧Y≤V 1120 (x j)):
  ∃p q,du x 4 n=(p,q,0)∧InB E Y p q∧BareB p q:=by
 have hlo:=tB x 3;have hhi:hiI x 3≤3:=wN x 3;have e1:=end_cut (A:=loT x 3) false (hx _ hlo).1 (hx _ hlo).2 h0 hn;have e2:=end_cut (A:=hiT x 3) true (hx _ hhi).1 (hx _ hhi).2 h0 hn;refine⟨_,_, ?_,⟨e1,e2, ?_, ?_⟩,⟨_,rfl⟩,⟨_,rfl⟩⟩
 ·unfold du
  rw[show(4-1:Nat)=3 from rfl,end_short e1 hE hn,end_short e2 hE hn]
  rfl
 ·obtain⟨j,j1,j2⟩:=hl
  have a1:=Al (K:=1120) x 3 (fun j hj=>(hx j hj).1) j j1
  obtain⟨a2,-,a3,-⟩:=lE (K:=1120) (loT x 3) n (by omega) (hx _ hlo).1;rw[dw a3];omega
 ·obtain⟨j,j1,j2⟩:=hh
  have a1:=Ao (K:=1120) x 3 (fun j hj=>(hx j hj).1) j j1
  obtain⟨-,a2,-,a3⟩:=lE (K:=1120) (hiT x 3) n (by omega) (hx _ hhi).1;rw[dw a3];omega
theorem mul_bits {a b m n:Nat}(h1:a<2^m)(h2:b<2^n):bitLen (a*b)≤m+n:=by
 refine bF _ _ ?_;rw[Nat.pow_add];exact Nat.mul_lt_mul'' h1 h2
theorem mul_two {n a A B:Nat}(h:n<2^A)(hB:A+a≤B):n*2^a<2^B:=by
 refine Nat.lt_of_lt_of_le (Nat.mul_lt_mul_of_pos_right h (Nat.pow_pos (by decide))) ?_;rw[←Nat.pow_add];exact two_mono hB
theorem V_scale {K:Nat}(a:ak)(s:Bool)(m:Nat):V K (aK a ⟨s,m,0⟩)=V K a*sz s m:=by
 unfold V aK;simp only;rw[Ny,Int.add_zero,Int.mul_assoc,Int.mul_comm (sz s m),←Int.mul_assoc]
theorem scale_in {E Y:Int}{l h:ak}(hI:InB E Y l h)(s:Bool)(m n:Nat)(hm:m<2^5)(h0:0≤E)(hE:E+1005≤20000)(hn:1≤n∧n≤1000):
  ∃p q,du (dk aK l h ⟨s,m,0⟩ ⟨s,m,0⟩) 4 n=(p,q,0)∧InB (E+1005) (Y*sz s m) p q∧BareB p q:=by
 obtain⟨⟨l1,l2,l3⟩,⟨h1,h2,h3⟩,v1,v2⟩:=hI;have fits: ∀t:ak,-1120≤t.e→t.e≤E→t.n<2^1000→ -1120≤(aK t ⟨s,m,0⟩).e∧(aK t ⟨s,m,0⟩).e+(bitLen (aK t ⟨s,m,0⟩).n:Int)≤E+1005:=fun t t1 t2 t3=>by
  have hb:bitLen (t.n*m)≤1000+5:=mul_bits t3 hm;refine⟨by show-1120≤t.e+0;omega, ?_⟩
  show t.e+0+(bitLen (t.n*m):Int)≤_
  omega
 have fl:=fits l l1 l2 l3;have fh:=fits h h1 h2 h3;have hv: ∀t,V 1120 (aK t ⟨s,m,0⟩)=V 1120 t*sz s m:=fun t=>V_scale t s m
 refine least_in hn (by omega) hE (fun j hj=> ?_) ?_ ?_
 ·obtain rfl|rfl|rfl|rfl:j=0∨j=1∨j=2∨j=3:=by omega
  ·exact fl
  ·exact fl
  ·exact fh
  ·exact fh
 ·rcases Int.le_total 0 (sz s m) with c|c
  ·exact⟨0,by omega,by show V 1120 (aK l _)≤_;rw[hv];exact Int.mul_le_mul_of_nonneg_right v1 c⟩
  ·exact⟨3,by omega,by show V 1120 (aK h _)≤_;rw[hv];exact Int.mul_le_mul_of_nonpos_right v2 c⟩
 ·rcases Int.le_total 0 (sz s m) with c|c
  ·exact⟨3,by omega,by show _≤V 1120 (aK h _);rw[hv];exact Int.mul_le_mul_of_nonneg_right v2 c⟩
  ·exact⟨0,by omega,by show _≤V 1120 (aK l _);rw[hv];exact Int.mul_le_mul_of_nonpos_right v1 c⟩
theorem plus_bits {E:Int}{a b:ak}(ha: -1120≤a.e∧a.e≤E∧a.n<2^1000)(hb: -1120≤b.e∧b.e≤E∧b.n<2^1000)(h0:0≤E): -1120≤(aG a b).e∧(aG a b).e+(bitLen (aG a b).n:Int)≤E+1001:=by
 have he:=plus_e_min a b;refine⟨by rw[he];omega, ?_⟩;have hV:=dH (K:=1120) (a:=a) (b:=b) (by omega) (by omega);have key: ∀t:ak,-1120≤t.e→t.e≤E→t.n<2^1000→(V 1120 t).natAbs<2^ (E.toNat+2120):=fun t t1 t2 t3=>by
  rw[eV];have:(sz t.s (t.n*2^ (t.e+((1120:Nat):Int)).toNat)).natAbs=t.n*2^ (t.e+((1120:Nat):Int)).toNat:=by
   unfold sz
   split<;>omega
  rw[this];exact mul_two t3 (by omega)
 have ka:=key a ha.1 ha.2.1 ha.2.2;have kb:=key b hb.1 hb.2.1 hb.2.2;have hs:(V 1120 (aG a b)).natAbs<2^ (E.toNat+2121):=by
  rw[hV,show E.toNat+2121=E.toNat+2120+1 by omega,Nat.pow_succ]
  generalize 2^ (E.toNat+2120)=P at*;omega
 rw[eV] at hs;have h2:(aG a b).n*2^ ((aG a b).e+((1120:Nat):Int)).toNat<2^ (E.toNat+2121):=by
  refine Nat.lt_of_le_of_lt ?_ hs;generalize(aG a b).n*2^ ((aG a b).e+((1120:Nat):Int)).toNat=M;unfold sz
  split<;>omega
 have h3:(aG a b).n<2^ (E.toNat+2121-((aG a b).e+((1120:Nat):Int)).toNat):=by
  refine Nat.lt_of_mul_lt_mul_right (a:=2^ ((aG a b).e+((1120:Nat):Int)).toNat) ?_;rw[←Nat.pow_add,Nat.sub_add_cancel (by omega)];exact h2
 have h4:=bF _ _ h3;omega
theorem sum_in {E Y Z:Int}{l h u v:ak}(hI:InB E Y l h)(hJ:InB E Z u v)(n:Nat)(h0:0≤E)(hE:E+1001≤20000)(hn:1≤n∧n≤1000):
  ∃p q,du (dk aG l h u v) 4 n=(p,q,0)∧InB (E+1001) (Y+Z) p q∧BareB p q:=by
 obtain⟨il,ih,v1,v2⟩:=hI;obtain⟨iu,iv,w1,w2⟩:=hJ;refine least_in hn (by omega) hE (fun j hj=> ?_) ⟨0,by omega, ?_⟩ ⟨3,by omega, ?_⟩
 ·obtain rfl|rfl|rfl|rfl:j=0∨j=1∨j=2∨j=3:=by omega
  ·exact plus_bits il iu h0
  ·exact plus_bits il iv h0
  ·exact plus_bits ih iu h0
  ·exact plus_bits ih iv h0
 ·show V 1120 (aG l u)≤_
  rw[dH (by have:=il.1;omega) (by have:=iu.1;omega)];omega
 ·show _≤V 1120 (aG h v)
  rw[dH (by have:=ih.1;omega) (by have:=iv.1;omega)];omega
theorem ofDyad_end {E:Int}{t:ak}(hb: ∃y,t=bare y)(ht:EndB E t)(hE:E≤20000)(xo:Option Addr)(xc:Nat)(w:World)(hr:Rd w .u32 (yT xo t.n xc) (Dg.dg 4294967296 t.n)):
  yC 27 #[yDV t xo xc] w (dr w t):=by
 obtain⟨h1,h2,hn⟩:=ht;obtain⟨y,hy⟩:=hb;have hl:=dyad_lenS hn;have h:=bQ t.s xo xc _ t.e w hr (Dg.small_dg _ _ (by omega)) (by omega) (by omega) (by omega);rw[Dg.vl_dg _ _ (by omega)] at h;rw[show(⟨t.s,t.n,t.e⟩:ak)=t from rfl,hy,iH,←hy] at h
 exact h
theorem meet_in {E Y:Int}{p q u v:ak}(hG:InB E Y p q)(hH:InB E Y u v)(hB:BareB p q)(hC:BareB u v)(hE:E≤20000)(po pc qo qc uo uc vo vc)(w:World)
  (rp:Rd w .u32 (yT po p.n pc) (Dg.dg 4294967296 p.n)) (rq:Rd w .u32 (yT qo q.n qc) (Dg.dg 4294967296 q.n)) (ru:Rd w .u32 (yT uo u.n uc) (Dg.dg 4294967296 u.n)) (rv:Rd w .u32 (yT vo v.n vc) (Dg.dg 4294967296 v.n)):
  yC 20 #[.agg #[.bool p.s,yT po p.n pc,yi p.e,.bool q.s,yT qo q.n qc,yi q.e],.agg #[.bool u.s,yT uo u.n uc,yi u.e,.bool v.s,yT vo v.n vc,yi v.e]] w (yR w (.bool true)):=by
 obtain⟨ip,iq,g2,g3⟩:=hG;obtain⟨iu,iv,k2,k3⟩:=hH;obtain⟨bp,bq⟩:=hB;obtain⟨bu,bv⟩:=hC;have mp:=dyad_len16 ip.2.2;have mq:=dyad_len16 iq.2.2;have mu:=dyad_len16 iu.2.2;have mv:=dyad_len16 iv.2.2;obtain⟨p1,p2,p3⟩:=ip;obtain⟨q1,q2,q3⟩:=iq;obtain⟨u1,u2,u3⟩:=iu;obtain⟨v1,v2,v3⟩:=iv;have b1:=(cmp_le (K:=1120) bp bv (by omega) (by omega)).1 (by omega);have b2:=(cmp_le (K:=1120) bu bq (by omega) (by omega)).1 (by omega);exact meet_W p q u v _ _ _ _ _ _ _ _ p q u v _ _ w b1 b2
  (fun w1 h1=>ie _ _ _ _ _ _ _ _ _ _ p q w1 (fun w2 h2=>ofDyad_end bp ⟨p1,p2,p3⟩ hE po pc w2 ((rp.l h1).l h2)) (fun w2 h2=>ofDyad_end bq ⟨q1,q2,q3⟩ hE qo qc w2 ((rq.l h1).l h2)))
  (fun w1 h1=>ie _ _ _ _ _ _ _ _ _ _ u v w1 (fun w2 h2=>ofDyad_end bu ⟨u1,u2,u3⟩ hE uo uc w2 ((ru.l h1).l h2)) (fun w2 h2=>ofDyad_end bv ⟨v1,v2,v3⟩ hE vo vc w2 ((rv.l h1).l h2)))
  (fun xo xc yo yc w1 _ rx ry=>gQ _ _ p v w1 ⟨_,rfl,rx⟩ ⟨_,rfl,ry⟩ (by omega) (by omega) (by omega) (by omega) (by omega) (by omega))
  (fun xo xc yo yc w1 _ rx ry=>gQ _ _ u q w1 ⟨_,rfl,rx⟩ ⟨_,rfl,ry⟩ (by omega) (by omega) (by omega) (by omega) (by omega) (by omega))
theorem own_brd {w:World}{p q:ak}{er:Int}{z:Ending}{w':World}(h:jE w (p,q,er) z w'):BRd w p q er z w':=by
 obtain⟨v,u,e,o1,o2,b⟩:=h;exact⟨v,u,e,o1.rd,o2.rd,b⟩
theorem mul_in {E Y:Int}{l h p q:ak}(c d:ak)(n:Nat)(hI:InB E Y l h)(hE:E≤20000)(hn:1≤n∧n≤1000)(hc:InB 100 (V 1120 c) c d)(hr:du (dk aK l h c d) 4 n=(p,q,0))(lo lc ho hc' co cc do' dc)(w:World)(hT:Tab w)
  (rl:Rd w .u32 (yT lo l.n lc) (Dg.dg 4294967296 l.n)) (rh:Rd w .u32 (yT ho h.n hc') (Dg.dg 4294967296 h.n)) (rc:Rd w .u32 (yT co c.n cc) (Dg.dg 4294967296 c.n)) (rd:Rd w .u32 (.slice do' (Dg.dg 4294967296 d.n).length dc) (Dg.dg 4294967296 d.n)):
  yC 18 #[.agg #[.bool l.s,yT lo l.n lc,yi l.e,.bool h.s,yT ho h.n hc',yi h.e],.agg #[.bool c.s,yT co c.n cc,yi c.e,.bool d.s,.slice do' (Dg.dg 4294967296 d.n).length dc,yi d.e],yi n] w (BRd w p q 0):=by
 have:=DK l.s lo lc _ l.e h.s ho hc' _ h.e c.s co cc _ c.e d.s do' dc _ d.e n w rl rh rc rd (Dg.small_dg _ _ (by omega)) (Dg.small_dg _ _ (by omega)) (Dg.small_dg _ _ (by omega)) (Dg.small_dg _ _ (by omega)) hT
 rw[if_pos (wrong2_ok (inB_chk hI hE) (inB_chk hc (by omega)) (by omega) (by omega)),Dg.vl_dg _ _ (by omega),Dg.vl_dg _ _ (by omega),Dg.vl_dg _ _ (by omega),Dg.vl_dg _ _ (by omega)] at this;rw[show du (dk aK ⟨l.s,l.n,l.e⟩ ⟨h.s,h.n,h.e⟩ ⟨c.s,c.n,c.e⟩ ⟨d.s,d.n,d.e⟩) 4 n=(p,q,0) from hr] at this
 exact this.mono fun _ _ h=>own_brd h
theorem add_in {E Y Z:Int}{l h p q:ak}(c d:ak)(n:Nat)(hI:InB E Y l h)(hE:E≤20000)(hn:1≤n∧n≤1000)(hc:InB E Z c d)(hr:du (dk aG l h c d) 4 n=(p,q,0))(lo lc ho hc' co cc do' dc)(w:World)(hT:Tab w)
  (rl:Rd w .u32 (yT lo l.n lc) (Dg.dg 4294967296 l.n)) (rh:Rd w .u32 (yT ho h.n hc') (Dg.dg 4294967296 h.n)) (rc:Rd w .u32 (yT co c.n cc) (Dg.dg 4294967296 c.n)) (rd:Rd w .u32 (.slice do' (Dg.dg 4294967296 d.n).length dc) (Dg.dg 4294967296 d.n)):
  yC 19 #[.agg #[.bool l.s,yT lo l.n lc,yi l.e,.bool h.s,yT ho h.n hc',yi h.e],.agg #[.bool c.s,yT co c.n cc,yi c.e,.bool d.s,.slice do' (Dg.dg 4294967296 d.n).length dc,yi d.e],yi n] w (BRd w p q 0):=by
 have:=Sk l.s lo lc _ l.e h.s ho hc' _ h.e c.s co cc _ c.e d.s do' dc _ d.e n w rl rh rc rd (Dg.small_dg _ _ (by omega)) (Dg.small_dg _ _ (by omega)) (Dg.small_dg _ _ (by omega)) (Dg.small_dg _ _ (by omega)) hT
 rw[if_pos (wrong2_ok (inB_chk hI hE) (inB_chk hc hE) (by omega) (by omega)),Dg.vl_dg _ _ (by omega),Dg.vl_dg _ _ (by omega),Dg.vl_dg _ _ (by omega),Dg.vl_dg _ _ (by omega)] at this;rw[show du (dk aG ⟨l.s,l.n,l.e⟩ ⟨h.s,h.n,h.e⟩ ⟨c.s,c.n,c.e⟩ ⟨d.s,d.n,d.e⟩) 4 n=(p,q,0) from hr] at this
 exact this.mono fun _ _ h=>own_brd h
theorem const_in (s:Bool)(m:Nat)(hm:m<2^5):InB 100 (V 1120 ⟨s,m,0⟩) ⟨s,m,0⟩ ⟨s,m,0⟩:=by
 have:m<2^1000:=Nat.lt_of_lt_of_le hm (two_mono (b:=1000) (by omega));exact⟨⟨by show-1120≤(0:Int);omega,by show(0:Int)≤100;omega,this⟩,⟨by show-1120≤(0:Int);omega,by show(0:Int)≤100;omega,this⟩,Int.le_refl _,Int.le_refl _⟩
theorem chk_five:chkN (XA 5 1 1120)=true:=by kernel_rfl
theorem chk_239:chkN (XA 239 1 1120)=true:=by kernel_rfl
theorem choose400_any (c:Int)(w:World)(h1: -9223372036854775808≤c)(h2:c≤9223372036854775807):
  ∃m:Nat,m<400∧yH w 14 #[yi c,yi 400] (yi (m:Int)):=by
 by_cases h:c<0
 ·have ht:(c+1).tmod 400= -((-(c+1)) % 400):=by
   have:=Int.neg_tmod (-(c+1)) 400;rw[Int.neg_neg] at this;rw[this,Int.tmod_eq_emod_of_nonneg (by omega)]
  have hb1:=Int.emod_nonneg (-(c+1)) (show(400:Int)≠0 by omega)
  have hb2:=Int.emod_lt_of_pos (-(c+1)) (show(0:Int)<400 by omega)
  obtain⟨m,hm⟩: ∃m:Nat,(-(c+1)) % 400=(m:Int):=⟨((-(c+1)) % 400).toNat,by omega⟩;refine⟨m,by omega,fun w1 _=> ?_⟩
  have ht2:(c+1).tmod 400= -(m:Int):=by rw[ht,hm]
  clear ht hm hb1 hb2
  go_enter func14,ntmps14
  go_wp2
  go_ret
  exact⟨by simp,Below.refl _ _⟩
 ·have ht:c.tmod 400=c % 400:=Int.tmod_eq_emod_of_nonneg (by omega)
  have hb1:=Int.emod_nonneg c (show(400:Int)≠0 by omega)
  have hb2:=Int.emod_lt_of_pos c (show(0:Int)<400 by omega)
  obtain⟨m,hm⟩: ∃m:Nat,c % 400=(m:Int):=⟨(c % 400).toNat,by omega⟩;refine⟨m,by omega,fun w1 _=> ?_⟩
  have ht2:c.tmod 400=(m:Int):=by rw[ht,hm]
  clear ht hm hb1 hb2
  go_enter func14,ntmps14
  go_wp2
  go_ret
  exact⟨by simp,Below.refl _ _⟩
theorem seriesMachin_walk (c:Int)(w:World)(h1: -9223372036854775808≤c)(h2:c≤9223372036854775807)(hT:Tab w):yC 4 #[yi c] w (yR w (.bool true)):=by
 obtain⟨m,hm,HC⟩:=choose400_any c w h1 h2;obtain⟨n,hn⟩: ∃n,20+m=n:=⟨_,rfl⟩;have w1':IntKind.i64.wrap (20+(m:Int))=(n:Int):=by rw[IntWalk.i64_in _ ⟨by omega,by omega⟩];omega
 have w2':IntKind.i64.wrap ((n:Int)+10)=((n+10:Nat):Int):=by rw[IntWalk.i64_in _ ⟨by omega,by omega⟩];omega
 obtain⟨p,q,G0,P0⟩:=serPi_ex n (by omega) chk_pi log_pi';obtain⟨a,b,G1,P1⟩:=serAtan_ex 5 n (by omega) (by omega) chk_five;obtain⟨d,e,G2,P2⟩:=serAtan_ex 239 n (by omega) (by omega) chk_239;obtain⟨I0,B0⟩:=inB_good G0;obtain⟨I1,-⟩:=inB_good G1;obtain⟨I2,-⟩:=inB_good G2;obtain⟨i,j,r1,J1,-⟩:=scale_in I1 false 16 (n+10) (by omega) (by omega) (by omega) (by omega);obtain⟨s,t,r2,J2,-⟩:=scale_in I2 true 4 (n+10) (by omega) (by omega) (by omega) (by omega);obtain⟨u,v,r3,J3,B3⟩:=sum_in J1 J2 (n+10) (by omega) (by omega) (by omega);have hX:((XPi:Nat):Int)=(XA 5 1 1120:Int)*sz false 16+(XA 239 1 1120:Int)*sz true 4:=by
  have hne:XPi≠0:=by
   intro e;have:=chk_pi;rw[e] at this
   cases this
  unfold XPi at hne;unfold XPi sz;rw[Int.ofNat_sub (by omega),if_neg (by decide),if_pos rfl];omega
 rw[←hX] at J3;have up:InB (9000+1005+1001) XPi p q:=⟨⟨I0.1.1,by have:=I0.1.2.1;omega,I0.1.2.2⟩,⟨I0.2.1.1,by have:=I0.2.1.2.1;omega,I0.2.1.2.2⟩,I0.2.2.1,I0.2.2.2⟩;exact machin_W p q a b d e ⟨false,16,0⟩ ⟨false,16,0⟩ ⟨true,4,0⟩ ⟨true,4,0⟩ i j s t u v c (m:Int) (n:Int) _ w w1' w2' (fun w1 h=>serBegun_any w1 (hT.l h)) HC
  (fun w1 h=>P0 w1 (hT.l h)) (fun w1 h=>P1 w1 (hT.l h)) (fun w1 h=>P2 w1 (hT.l h)) (fun w1 _=>machin16_W w1) (fun w1 _=>machin4_W w1)
  (fun _ _ _ _ _ _ _ _ w1 h ra rb rc rd=>mul_in _ _ (n+10) I1 (by omega) (by omega) (const_in false 16 (by omega)) r1 _ _ _ _ _ _ _ _ w1 (hT.l h) ra rb rc rd)
  (fun _ _ _ _ _ _ _ _ w1 h ra rb rc rd=>mul_in _ _ (n+10) I2 (by omega) (by omega) (const_in true 4 (by omega)) r2 _ _ _ _ _ _ _ _ w1 (hT.l h) ra rb rc rd)
  (fun _ _ _ _ _ _ _ _ w1 h ra rb rc rd=>add_in _ _ (n+10) J1 (by omega) (by omega) J2 r3 _ _ _ _ _ _ _ _ w1 (hT.l h) ra rb rc rd)
  (fun _ _ _ _ _ _ _ _ w1 _ ra rb rc rd=>meet_in J3 up B3 B0 (by omega) _ _ _ _ _ _ _ _ w1 ra rb rc rd)
end Go.Proofs.YtiakgfmlpdfhdaaGreatDoor

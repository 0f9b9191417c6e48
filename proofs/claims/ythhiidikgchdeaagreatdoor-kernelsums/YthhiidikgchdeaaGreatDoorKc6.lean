/-
  Kernel: the beginning, KernelSums, paid.
-/
import Derived.Test.YthhiidikgchdeaaGreatDoorKs46
import Derived.Test.YthhiidikgchdeaaGreatDoorKs45
import Derived.Test.YthhiidikgchdeaaGreatDoorKs21
set_option maxRecDepth 100000
namespace Go.Proofs.YthhiidikgchdeaaGreatDoor
open _root_.Go.Proofs.Tryz
open Go.RowKit
theorem choose200_any (c:Int)(w:World)(h1: -9223372036854775808≤c)(h2:c≤9223372036854775807):
  ∃m:Nat,m<200∧yH w 16 #[yi c,yi 200] (yi (m:Int)):=by
 by_cases h:c<0
 ·have ht:(c+1).tmod 200= -((-(c+1)) % 200):=by
   have:=Int.neg_tmod (-(c+1)) 200;rw[Int.neg_neg] at this;rw[this,Int.tmod_eq_emod_of_nonneg (by omega)]
  have hb1:=Int.emod_nonneg (-(c+1)) (show(200:Int)≠0 by omega)
  have hb2:=Int.emod_lt_of_pos (-(c+1)) (show(0:Int)<200 by omega)
  obtain⟨m,hm⟩: ∃m:Nat,(-(c+1)) % 200=(m:Int):=⟨((-(c+1)) % 200).toNat,by omega⟩;refine⟨m,by omega,fun w1 _=> ?_⟩
  have ht2:(c+1).tmod 200= -(m:Int):=by rw[ht,hm]
  clear ht hm hb1 hb2
  go_enter func16,ntmps16
  go_wp2
  go_ret
  exact⟨by simp,Below.refl _ _⟩
 ·have ht:c.tmod 200=c % 200:=Int.tmod_eq_emod_of_nonneg (by omega)
  have hb1:=Int.emod_nonneg c (show(200:Int)≠0 by omega)
  have hb2:=Int.emod_lt_of_pos c (show(0:Int)<200 by omega)
  obtain⟨m,hm⟩: ∃m:Nat,c % 200=(m:Int):=⟨(c % 200).toNat,by omega⟩;refine⟨m,by omega,fun w1 _=> ?_⟩
  have ht2:c.tmod 200=(m:Int):=by rw[ht,hm]
  clear ht hm hb1 hb2
  go_enter func16,ntmps16
  go_wp2
  go_ret
  exact⟨by simp,Below.refl _ _⟩
theorem expOut_zero:expOut false [] 0 30=(wTr 1,wTr 1,0):=by
 have hb:bare ⟨false,Dg.vl 4294967296 [],0⟩=zTr:=rfl;have hd:aS [] 0=0:=rfl;have hN:numR false [] 0 30=0:=by
  unfold numR;rw[hb,if_neg (by rw[hd];decide),if_neg (by omega),if_neg];rw[show zTr.n=0 from rfl,gP]
  show¬(1200<0∨(0:Int)< -18000)
  omega
 unfold expOut;rw[if_neg (by rw[hN];decide),hb,if_neg,if_pos (show zTr.n=0 from rfl)]
 intro c;rw[cmp_gt,qT_w,qT_size] at c;have h0:qT zTr=0:=qT_zero rfl;have h1:ab 0=0:=by unfold ab;grind
 rw[h0,h1] at c;have:((12000:Nat):Rat)=12000:=rfl;rw[this] at c
 grind
theorem kernelBegun_any (w:World)(hT:Tab w):yC 10 #[] w (yR w (.bool true)):=by
 have hrd: ∀w1:World,Rd w1 .u32 (.slice none ([]:List Nat).length 0) []:=fun w1=>aN _ _
 have hN0:numR false [] 0 30=0:=by
  have:=expOut_zero;unfold expOut at this
  by_cases c:numR false [] 0 30≠0
  ·rw[if_pos c] at this
   exact absurd (congrArg (fun p=>p.1.n) this) (by decide)
  ·omega
 have fo:Fit9 (wTr 1):=(RgT.w 1 1 (by omega)).fit (by omega) (by omega);have hz0:dJ zTr=0:=rfl;have SD: ∀pb (xo:Option Addr) xc w1,Rd w1 .u32 (.slice xo (Dg.dg 4294967296 (wTr 1).n).length xc) (Dg.dg 4294967296 (wTr 1).n)→au w1 pb 54 [.int .u32 1]→yC 30 #[.agg #[.bool (wTr 1).s,.slice xo (Dg.dg 4294967296 (wTr 1).n).length xc,yi (wTr 1).e],ydV false (.slice (some ⟨pb,0,none⟩) 1 1) 0] w1 (yR w1 (.bool true)):=fun pb xo xc w1 hr hl=>by
  have:=ig (wTr 1).s xo xc _ (wTr 1).e false (some ⟨pb,0,none⟩) 1 [1] 0 w1 hr (rd_cell1 (d:=1) hl);rw[show decide ((wTr 1).s=false∧(wTr 1).e=0∧Dg.dg 4294967296 (wTr 1).n=[1])=true by decide+kernel] at this
  exact this
 refine kernelBegun_W (wTr 1) (wTr 1) (wTr 1) (wTr 1) w (fun w1 hb=> ?_) (fun w1 hb=> ?_) (fun pb xo xc w1 _ hr hl=>SD pb xo xc w1 hr hl) (fun pb xo xc w1 _ hr hl=>SD pb xo xc w1 hr hl)
 ·have:=kexp_any false none 0 [] 0 30 w1 (hrd w1) (Dg.small_nil _ (by omega)) (hT.l hb)
  rw[expOut_zero] at this;exact this
 ·refine Cos_e3 zTr (wTr 1) (wTr 1) (wTr 1) false none 0 0 0 30 (dJ zTr) 0 w1 hz0 (fun w2 hb2=> ?_) (fun xo xc w2 _ h=>qB _ zTr w2 ⟨_,rfl,h⟩) (fun w2 _=>swhole9 1 w2 (by omega)) (fun uo uc vo vc w2 hb2 hu hv=> ?_)
  ·refine angle_zero zTr false none 0 0 0 30 (dJ zTr) w2 hz0 (fun w3 hb3=> ?_) (fun xo xc w3 _ h=>qB _ zTr w3 ⟨_,rfl,h⟩)
   have:=(number9 false none 0 [] 0 30 w3 (hrd w3) (Dg.small_nil _ (by omega)) (((hT.l hb).l hb2).l hb3)).2 hN0;exact this
  ·have:=sshort9 _ (wTr 1) (wTr 1) w2 ⟨_,_,rfl,hu,hv⟩ fo fo ((hT.l hb).l hb2)
   rw[short_one] at this;exact this
theorem SIn.sub {S S':IvN}{f:Nat→Rat}(h:SIn S f)(h1:S'.lo≤S.lo)(h2:S.hi≤S'.hi):SIn S' f:=by
 obtain⟨g,g1,N,g2⟩:=h;exact⟨g,g1,N,fun n hn=>⟨Rat.le_trans h1 (g2 n hn).1,Rat.le_trans (g2 n hn).2 h2⟩⟩
theorem EndK.len16 {t:ak}(h:EndK t):(Dg.dg 65536 t.n).length≤2401:=by
 have:=gf h.2.1;exact UI (Nat.le_of_lt (bits_lt t.n)) (by omega)
theorem ofDyad_K {t:ak}(h:EndK t)(xo:Option Addr)(xc:Nat)(w:World)(hr:Rd w .u32 (yT xo t.n xc) (Dg.dg 4294967296 t.n)):
  yC 32 #[yDV t xo xc] w (dr w t):=by
 obtain⟨⟨y,hy⟩,h1,h2,h3⟩:=h;have h:=bQ t.s xo xc _ t.e w hr (Dg.small_dg _ _ (by omega)) (by omega) (by omega) (by omega);rw[Dg.vl_dg _ _ (by omega)] at h;rw[show(⟨t.s,t.n,t.e⟩:ak)=t from rfl,hy,iH,←hy] at h
 exact h
theorem meet_K {p q u v:ak}(hp:EndK p)(hq:EndK q)(hu:EndK u)(hv:EndK v)(h1:qT p≤qT v)(h2:qT u≤qT q)(po pc qo qc uo uc vo vc)(w:World)
  (rp:Rd w .u32 (yT po p.n pc) (Dg.dg 4294967296 p.n)) (rq:Rd w .u32 (yT qo q.n qc) (Dg.dg 4294967296 q.n)) (ru:Rd w .u32 (yT uo u.n uc) (Dg.dg 4294967296 u.n)) (rv:Rd w .u32 (yT vo v.n vc) (Dg.dg 4294967296 v.n)):
  yC 19 #[.agg #[.bool p.s,yT po p.n pc,yi p.e,.bool q.s,yT qo q.n qc,yi q.e],.agg #[.bool u.s,yT uo u.n uc,yi u.e,.bool v.s,yT vo v.n vc,yi v.e]] w (yR w (.bool true)):=by
 have mp:=hp.len16;have mq:=hq.len16;have mu:=hu.len16;have mv:=hv.len16;obtain⟨-,-,p1,p2⟩:=id hp;obtain⟨-,-,q1,q2⟩:=id hq;obtain⟨-,-,u1,u2⟩:=id hu;obtain⟨-,-,v1,v2⟩:=id hv;have b1:=(cmp_le (K:=20000) hp.1 hv.1 (by omega) (by omega)).1 ((le_V (by omega) (by omega)).2 h1);have b2:=(cmp_le (K:=20000) hu.1 hq.1 (by omega) (by omega)).1 ((le_V (by omega) (by omega)).2 h2);exact meet_W p q u v _ _ _ _ _ _ _ _ p q u v _ _ w b1 b2
  (fun w1 h1=>ie _ _ _ _ _ _ _ _ _ _ p q w1 (fun w2 h2=>ofDyad_K hp po pc w2 ((rp.l h1).l h2)) (fun w2 h2=>ofDyad_K hq qo qc w2 ((rq.l h1).l h2)))
  (fun w1 h1=>ie _ _ _ _ _ _ _ _ _ _ u v w1 (fun w2 h2=>ofDyad_K hu uo uc w2 ((ru.l h1).l h2)) (fun w2 h2=>ofDyad_K hv vo vc w2 ((rv.l h1).l h2)))
  (fun xo xc yo yc w1 _ rx ry=>gQ _ _ p v w1 ⟨_,rfl,rx⟩ ⟨_,rfl,ry⟩ (by omega) (by omega) (by omega) (by omega) (by omega) (by omega))
  (fun xo xc yo yc w1 _ rx ry=>gQ _ _ u q w1 ⟨_,rfl,rx⟩ ⟨_,rfl,ry⟩ (by omega) (by omega) (by omega) (by omega) (by omega) (by omega))
def mulOut (l h c d:ak)(n:Int):ak×ak×Int:=
 if cW n (cu l.s (Dg.dg 4294967296 l.n) l.e h.s (Dg.dg 4294967296 h.n) h.e) (cu c.s (Dg.dg 4294967296 c.n) c.e d.s (Dg.dg 4294967296 d.n) d.e)=0 then du (dk aK l h c d) 4 n
 else(⟨false,0,0⟩,⟨false,0,0⟩,cW n (cu l.s (Dg.dg 4294967296 l.n) l.e h.s (Dg.dg 4294967296 h.n) h.e) (cu c.s (Dg.dg 4294967296 c.n) c.e d.s (Dg.dg 4294967296 d.n) d.e))
theorem mul_K (l h c d:ak)(n:Int)(lo lc ho hc' co cc zo zc)(w:World)(hT:Tab w)
  (rl:Rd w .u32 (yT lo l.n lc) (Dg.dg 4294967296 l.n)) (rh:Rd w .u32 (yT ho h.n hc') (Dg.dg 4294967296 h.n)) (rc:Rd w .u32 (yT co c.n cc) (Dg.dg 4294967296 c.n)) (rd:Rd w .u32 (yT zo d.n zc) (Dg.dg 4294967296 d.n)):
  yC 18 #[.agg #[.bool l.s,yT lo l.n lc,yi l.e,.bool h.s,yT ho h.n hc',yi h.e],.agg #[.bool c.s,yT co c.n cc,yi c.e,.bool d.s,yT zo d.n zc,yi d.e],yi n] w (BRd w (mulOut l h c d n).1 (mulOut l h c d n).2.1 (mulOut l h c d n).2.2):=by
 have:=DK l.s lo lc _ l.e h.s ho hc' _ h.e c.s co cc _ c.e d.s zo zc _ d.e n w rl rh rc rd (Dg.small_dg _ _ (by omega)) (Dg.small_dg _ _ (by omega)) (Dg.small_dg _ _ (by omega)) (Dg.small_dg _ _ (by omega)) hT;rw[Dg.vl_dg _ _ (by omega),Dg.vl_dg _ _ (by omega),Dg.vl_dg _ _ (by omega),Dg.vl_dg _ _ (by omega)] at this;exact this.mono fun _ _ h=>own_brd h
theorem mulOut_ok {l h c d:ak}{n:Nat}{f g:Nat→Rat}(hn:1≤n)(hr:(mulOut l h c d n).2.2=0)(hf:SIn (ivT l h) f)(hg:SIn (ivT c d) g):
  EndK (mulOut l h c d n).1∧EndK (mulOut l h c d n).2.1∧SIn (ivT (mulOut l h c d n).1 (mulOut l h c d n).2.1) (fun k=>f k*g k):=by
 unfold mulOut at*
 by_cases hw:cW n (cu l.s (Dg.dg 4294967296 l.n) l.e h.s (Dg.dg 4294967296 h.n) h.e) (cu c.s (Dg.dg 4294967296 c.n) c.e d.s (Dg.dg 4294967296 d.n) d.e)=0
 ·rw[if_pos hw] at hr⊢
  unfold du at*;obtain⟨e1,e2,e3⟩:=ball_end hr;refine⟨e1,e2, ?_⟩;rw[e3];have hft:dk aK l h c d=fourT l h c d:=by
   funext j
   match j with
   |0=>rfl
   |1=>rfl
   |2=>rfl
   |_+3=>rfl
  rw[hft];have ht:=times_iv (l,h) (c,d);refine(hf.times hg).sub ?_ ?_
  ·rw[show IvN.times (ivT l h) (ivT c d)=ivS (timesS (l,h) (c,d)) from ht.symm]
   exact(cut_lo _ n (by omega)).1
  ·rw[show IvN.times (ivT l h) (ivT c d)=ivS (timesS (l,h) (c,d)) from ht.symm]
   exact(cut_lo _ n (by omega)).2
 ·rw[if_neg hw] at hr
  exact absurd hr hw
theorem dans_nrd {w:World}{r:ak×Int}{z:Ending}{w':World}(h:gR w r z w'):NRd w r.1 r.2 z w':=by
 obtain⟨p,h1,h2,h3⟩:=h;exact⟨p,h1,h2.rd,h3⟩
theorem kernelSums_walk (s:Bool)(ao:Option Addr)(ca:Nat)(xs:List Nat)(e:Int)(t:Bool)(bo:Option Addr)(cb:Nat)(ys:List Nat)(f k:Int)(w:World)(hr:Rd w .u32 (.slice ao xs.length ca) xs)(hq:Rd w .u32 (.slice bo ys.length cb) ys)(hs:Dg.Small 4294967296 xs)(ht:Dg.Small 4294967296 ys)
  (h1: -9223372036854775808≤k) (h2:k≤9223372036854775807) (hT:Tab w):
  yC 8 #[ydV s (.slice ao xs.length ca) e,ydV t (.slice bo ys.length cb) f,yi k] w (yR w (.bool true)):=by
 obtain⟨m,hm,HC⟩:=choose200_any k w h1 h2;obtain⟨n,hn⟩: ∃n,20+m=n:=⟨_,rfl⟩;have hw:IntKind.i64.wrap (20+(m:Int))=(n:Int):=by rw[IntWalk.i64_in _ ⟨by omega,by omega⟩];omega
 have hl:IntKind.i64.wrap ((n:Int)+10)=((n+10:Nat):Int):=by rw[IntWalk.i64_in _ ⟨by omega,by omega⟩];omega
 have HB:=fun w1 (h:yB w w1)=>kernelBegun_any w1 (hT.l h)
 have HA:=fun w1 (h:yB w w1)=>(tJ s ao ca xs e t bo cb ys f w1 (hr.l h) (hq.l h) hs ht (hT.l h)).mono fun _ _=>dans_nrd
 have H1:=fun w1 (h:yB w w1)=>kexp_any s ao ca xs e (n:Int) w1 (hr.l h) hs (hT.l h)
 have H2:=fun w1 (h:yB w w1)=>kexp_any t bo cb ys f (n:Int) w1 (hq.l h) ht (hT.l h)
 have o1:= @expOut_ok s xs e (n:Int);have o2:= @expOut_ok t ys f (n:Int);obtain⟨r,hre⟩: ∃r,cC (dQ xs e ys f) (aG ⟨s,Dg.vl 4294967296 xs,e⟩ ⟨t,Dg.vl 4294967296 ys,f⟩)=r:=⟨_,rfl⟩;rw[hre] at HA;have hqr:r.2=0→qT r.1=qT ⟨s,Dg.vl 4294967296 xs,e⟩+qT ⟨t,Dg.vl 4294967296 ys,f⟩:=fun h=>by
  rw[←hre] at h⊢;unfold cC at*
  by_cases c:dQ xs e ys f=0
  ·rw[if_pos c] at h⊢
   rw[(short_end h).2,qT_plus]
  ·rw[if_neg c] at h
   exact absurd h c
 have H3:=fun(xo:Option Addr) (xc:Nat) w1 (h:yB w w1) (hx:Rd w1 .u32 (yT xo r.1.n xc) (Dg.dg 4294967296 r.1.n))=>kexp_any r.1.s xo xc (Dg.dg 4294967296 r.1.n) r.1.e (n:Int) w1 hx (Dg.small_dg _ _ (by omega)) (hT.l h)
 have o3:= @expOut_ok r.1.s (Dg.dg 4294967296 r.1.n) r.1.e (n:Int);rw[Dg.vl_dg _ _ (by omega)] at o3;generalize expOut s xs e (n:Int)=A at*;generalize expOut t ys f (n:Int)=B at*;generalize expOut r.1.s (Dg.dg 4294967296 r.1.n) r.1.e (n:Int)=C at*;clear hre
 by_cases g0:r.2=0
 ·by_cases g1:A.2.2=0
  ·by_cases g2:B.2.2=0
   ·by_cases g3:C.2.2=0
    ·obtain⟨a1,a2,a3⟩:=o1 g1
     obtain⟨b1,b2,b3⟩:=o2 g2;obtain⟨c1,c2,c3⟩:=o3 g3;have hM:= @mulOut_ok A.1 A.2.1 B.1 B.2.1 (n+10) (er (qT ⟨s,Dg.vl 4294967296 xs,e⟩)) (er (qT ⟨t,Dg.vl 4294967296 ys,f⟩)) (by omega);have H4:=fun(ao:Option Addr) (ac:Nat) (bo:Option Addr) (bc:Nat) (co:Option Addr) (cc:Nat) (zo:Option Addr) (zc:Nat) w1 (h:yB w w1) (ra:Rd w1 .u32 (yT ao A.1.n ac) (Dg.dg 4294967296 A.1.n)) (rb:Rd w1 .u32 (yT bo A.2.1.n bc) (Dg.dg 4294967296 A.2.1.n)) (rc:Rd w1 .u32 (yT co B.1.n cc) (Dg.dg 4294967296 B.1.n)) (rz:Rd w1 .u32 (yT zo B.2.1.n zc) (Dg.dg 4294967296 B.2.1.n))=>
      mul_K A.1 A.2.1 B.1 B.2.1 ((n+10:Nat):Int) ao ac bo bc co cc zo zc w1 (hT.l h) ra rb rc rz
     by_cases g4:(mulOut A.1 A.2.1 B.1 B.2.1 ((n+10:Nat):Int)).2.2=0
     ·obtain⟨m1,m2,m3⟩:=hM g4 a3 b3
      have m4:=m3.near (exp_add _ _);rw[←hqr g0] at m4;exact kSums_W s t ao bo _ _ ca cb e f r.1 A.1 A.2.1 B.1 B.2.1 C.1 C.2.1 _ _ k (m:Int) (n:Int) r.2 A.2.2 B.2.2 C.2.2 _ _ w hw g0 g1 g2 g3 hl g4 HB HC HA H1 H2 H3 H4 (fun uo uc vo vc po pc qo qc w1 _ ru rv rp rq=>meet_K m1 m2 c1 c2 (m4.meet c3) (c3.meet m4) _ _ _ _ _ _ _ _ w1 ru rv rp rq)
     ·exact kSums_e4 s t ao bo _ _ ca cb e f r.1 A.1 A.2.1 B.1 B.2.1 C.1 C.2.1 _ _ k (m:Int) (n:Int) r.2 A.2.2 B.2.2 C.2.2 _ _ w hw g0 g1 g2 g3 hl g4 HB HC HA H1 H2 H3 H4
    ·exact kSums_e3 s t ao bo _ _ ca cb e f r.1 A.1 A.2.1 B.1 B.2.1 C.1 C.2.1 k (m:Int) (n:Int) r.2 A.2.2 B.2.2 C.2.2 w hw g0 g1 g2 g3 HB HC HA H1 H2 H3
   ·exact kSums_e2 s t ao bo _ _ ca cb e f r.1 A.1 A.2.1 B.1 B.2.1 C.1 C.2.1 k (m:Int) (n:Int) r.2 A.2.2 B.2.2 C.2.2 w hw g0 g1 g2 HB HC HA H1 H2 H3
  ·exact kSums_e1 s t ao bo _ _ ca cb e f r.1 A.1 A.2.1 B.1 B.2.1 C.1 C.2.1 k (m:Int) (n:Int) r.2 A.2.2 B.2.2 C.2.2 w hw g0 g1 HB HC HA H1 H2 H3
 ·exact kSums_e0 s t ao bo _ _ ca cb e f r.1 A.1 A.2.1 B.1 B.2.1 C.1 C.2.1 k (m:Int) (n:Int) r.2 A.2.2 B.2.2 C.2.2 w hw g0 HB HC HA H1 H2 H3
end Go.Proofs.YthhiidikgchdeaaGreatDoor

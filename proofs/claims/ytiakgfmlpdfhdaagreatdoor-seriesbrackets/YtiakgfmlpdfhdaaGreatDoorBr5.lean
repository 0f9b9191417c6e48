/-
  Series: SeriesBrackets, paid.
-/
import Derived.Test.YtiakgfmlpdfhdaaGreatDoorTa41
import Derived.Test.YtiakgfmlpdfhdaaGreatDoorTa23
import Derived.Test.YtiakgfmlpdfhdaaGreatDoorTa12
namespace Go.Proofs.YtiakgfmlpdfhdaaGreatDoor
open Go.RowKit
theorem V_zeroB (K:Nat):V K fL=0:=by simp[V,fL,sz]
theorem lawSame_any (a b:ak)(xo yo:Option Addr)(xc yc px py:Nat)(m:Int)(w:World)(ha:EndR a)(hb:EndR b)(hm:1≤m∧m≤4096)
  (lx:w.rangeAt px 0 [.bool (bare a).s,.slice xo (Dg.dg 65536 (bare a).n).length xc,yi (bare a).e]) (ly:w.rangeAt py 0 [.bool (bare b).s,.slice yo (Dg.dg 65536 (bare b).n).length yc,yi (bare b).e])
  (rx:Rd w .i64 (.slice xo (Dg.dg 65536 (bare a).n).length xc) (Dg.dg 65536 (bare a).n)) (ry:Rd w .i64 (.slice yo (Dg.dg 65536 (bare b).n).length yc) (Dg.dg 65536 (bare b).n)):
  yC 10 #[yi m,.pointer (some ⟨px,0,none⟩),.pointer (some ⟨py,0,none⟩)] w (yR w (.bool (sameL (bare a) (bare b) m))):=by
 obtain⟨la,a1,a2⟩:=ha;obtain⟨lb,b1,b2⟩:=hb;obtain⟨fa,fa1,fa2⟩:=eT la a1 a2;obtain⟨fb,fb1,fb2⟩:=eT lb b1 b2;have cut_fits: ∀t:ak,(Dg.dg 4294967296 t.n).length≤1200→ -20000≤t.e→t.e≤20000→(Dg.dg 65536 (dE (bare t) m false).n).length≤30000∧ -200000≤(dE (bare t) m false).e∧(dE (bare t) m false).e≤200000:=fun t h1 h2 h3=>by
  rw[←oQ t m false hm.1];have hbl:=gf h1;have hlt:=mi t m false hm.1;obtain⟨B,hB⟩: ∃B,B=4096:=⟨_,rfl⟩;have hlt2:(bare (aY t m false)).n<2^B:=Nat.lt_of_lt_of_le hlt (two_mono (by omega));have l2:(Dg.dg 65536 (bare (aY t m false)).n).length≤257:=two_lenS16 (Nat.le_of_lt hlt2) (by omega);obtain⟨e1,e2⟩:=FQ (A:=t) (b:=m) (up:=false) (lo:= -20000) (hi:=20000+38400) hm.1 h2 (by omega) (by omega) (by omega);refine⟨by omega,by omega,by omega⟩
 obtain⟨k1,k2,k3⟩:=cut_fits a la a1 a2;obtain⟨j1,j2,j3⟩:=cut_fits b lb b1 b2;exact lawSame_W (dE (bare a) m false) (dE (bare b) m false) (bare a) (bare b) xo yo xc yc px py m _ _ w lx ly rfl
  (fun w1 h1=>fg _ (bare a) m false w1 ⟨_,rfl,rx.l h1⟩ (by omega) (by omega) (by omega) hm.1 hm.2)
  (fun w1 h1=>fg _ (bare b) m false w1 ⟨_,rfl,ry.l h1⟩ (by omega) (by omega) (by omega) hm.1 hm.2)
  (fun po pc qo qc w1 _ rp rq=>gQ _ _ _ _ w1 ⟨_,rfl,rp⟩ ⟨_,rfl,rq⟩ k1 j1 k2 k3 j2 j3)
theorem seriesBrackets_walk (s:Bool)(ao:Option Addr)(ca:Nat)(xs:List Nat)(e:Int)(t:Bool)(bo:Option Addr)(cb:Nat)(ys:List Nat)(f:Int)(m:Int)(w:World)
  (ha:Rd w .u32 (.slice ao xs.length ca) xs) (hb:Rd w .u32 (.slice bo ys.length cb) ys) (sa:Dg.Small 4294967296 xs) (sb:Dg.Small 4294967296 ys) (hT:Tab w):
  yC 3 #[.agg #[.bool s,.slice ao xs.length ca,yi e,.bool t,.slice bo ys.length cb,yi f],yi m] w (yR w (.bool true)):=by
 have HB:yH w 7 #[] (.bool true):=fun w1 h=>serBegun_any w1 (hT.l h)
 have HC0:=fun w1 (h:yB w w1)=>kV s ao ca xs e t bo cb ys f w1 (ha.l h) (hb.l h) sa sb
 have HK0:=fun w1 (h:yB w w1)=>qK s ao ca xs e t bo cb ys f w1 (ha.l h) (hb.l h) sa sb
 by_cases hk:cu s xs e t ys f=0
 rotate_left
 ·have hk':(cu s xs e t ys f==0)=false:=by simpa using hk
  exact brackets_err s t ao bo _ _ ca cb e f m _ w hk' (fun w1 h=>bracket_err s t ao bo _ _ ca cb e f m _ w1 hk' (fun w2 h2=>HK0 w2 (aa h h2))) HC0 HB
 rw[hk] at HC0 HK0
 by_cases hm1:m<1
 ·exact brackets_low s t ao bo _ _ ca cb e f m w hm1 (fun w1 h=>bracket_low s t ao bo _ _ ca cb e f m w1 hm1 (fun w2 h2=>HK0 w2 (aa h h2))) HC0 HB
 by_cases hm2:4096<m
 ·exact brackets_high s t ao bo _ _ ca cb e f m w hm1 hm2 (fun w1 h=>bracket_high s t ao bo _ _ ca cb e f m w1 hm1 hm2 (fun w2 h2=>HK0 w2 (aa h h2))) HC0 HB
 obtain⟨M,rfl⟩: ∃M:Nat,m=(M:Int):=⟨m.toNat,by omega⟩;obtain⟨c1,c2,c3⟩:=dx hk;obtain⟨-,x1,x2,x3,x4⟩:=aO c1 sa;obtain⟨-,y1,y2,y3,y4⟩:=aO c2 sb;obtain⟨a,hA⟩: ∃a:ak,(⟨s,Dg.vl 4294967296 xs,e⟩:ak)=a:=⟨_,rfl⟩;obtain⟨b,hBd⟩: ∃b:ak,(⟨t,Dg.vl 4294967296 ys,f⟩:ak)=b:=⟨_,rfl⟩;rw[hA,hBd] at c3;obtain rfl:s=a.s:=by rw[←hA]
 obtain rfl:e=a.e:=by rw[←hA]
 obtain rfl:t=b.s:=by rw[←hBd]
 obtain rfl:f=b.e:=by rw[←hBd]
 have hxn:Dg.vl 4294967296 xs=a.n:=by rw[←hA]
 have hyn:Dg.vl 4294967296 ys=b.n:=by rw[←hBd]
 rw[hxn] at x1;rw[hyn] at y1;subst x1 y1;clear hA hBd hxn hyn sa sb c1 c2 HK0;have ea:EndR a:=⟨x2,x3,x4⟩;have eb:EndR b:=⟨y2,y3,y4⟩;have kb: -((20000:Nat):Int)≤b.e:=by omega
 have ka: -((20000:Nat):Int)≤a.e:=by omega
 have hab:V 20000 a≤V 20000 b:=by
  rw[oY (K:=20000) ka kb] at c3;unfold sgn at c3
  split at c3
  ·omega
  ·split at c3<;>omega
 obtain⟨n0,n1,n2⟩:=brkN_spec a b M;have HK:=fun w1 (h:yB w w1)=>bracket_num a b ao bo ca cb M w1 ea eb ⟨by omega,by omega⟩ (hT.l h) hk (ha.l h) (hb.l h)
 obtain⟨n,hn⟩: ∃n,brkN a b M=n:=⟨_,rfl⟩;rw[hn] at n0 n1 n2 HK;obtain⟨fa,fa1,fa2⟩:=eT x2 x3 x4;obtain⟨fb,fb1,fb2⟩:=eT y2 y3 y4;have HO: ∀w1,yB w w1→yC 8 #[.agg #[.bool a.s,yT ao a.n ca,yi a.e,.bool b.s,yT bo b.n cb,yi b.e]] w1 (tR w1 (bare a) (bare b)):=fun w1 h=>by
  refine ie _ _ _ _ _ _ _ _ _ _ _ _ w1 (fun w2 h2=> ?_) (fun w2 h2=> ?_)
  ·have:=bQ a.s ao ca _ a.e w2 ((ha.l h).l h2) (Dg.small_dg _ _ (by omega)) (by omega) (by omega) (by omega)
   rwa [Dg.vl_dg _ _ (by omega)] at this
  ·have:=bQ b.s bo cb _ b.e w2 ((hb.l h).l h2) (Dg.small_dg _ _ (by omega)) (by omega) (by omega) (by omega)
   rwa [Dg.vl_dg _ _ (by omega)] at this
 have ev: ∀k:Nat,1≤k→(sameP a b (k:Int)=true↔0<V 20000 (lawA a b)∧V 20000 (aY (lawA a b) (k:Int) false)=V 20000 (aY (lawB a b) (k:Int) false)):=fun k hk=>spanSame_iff (by omega) ka kb hab
 have hn0: ∀h:n=0,n≤M:=fun h=>by omega
 have law: ∀c d:ak,lawA a b=c→lawB a b=d→ -((20000:Nat):Int)≤c.e→ -((20000:Nat):Int)≤d.e→
   (¬0<V 20000 c∧n=0)∨(0<V 20000 c∧n=0∧sameL (bare c) (bare d) 1=false)∨(0<V 20000 c∧1≤n∧sameL (bare c) (bare d) 1=true∧sameL (bare c) (bare d) (n:Int)=true∧(n<M→sameL (bare c) (bare d) ((n+1:Nat):Int)=false)):=fun c d hc hd kc kd=>by
  rw[hc,hd] at ev;have sl: ∀k:Nat,1≤k→(sameL (bare c) (bare d) (k:Int)=true↔V 20000 (aY c (k:Int) false)=V 20000 (aY d (k:Int) false)):=fun k hk=>sameL_bare (by omega) kc kd
  have no: ∀k:Nat,1≤k→0<V 20000 c→sameP a b (k:Int)=false→sameL (bare c) (bare d) (k:Int)=false:=fun k hk hp h=>by
   cases hq:sameL (bare c) (bare d) (k:Int)
   ·rfl
   ·rw[(ev k hk).2 ⟨hp,(sl k hk).1 hq⟩] at h
    cases h
  by_cases hp:0<V 20000 c
  ·rcases Nat.eq_zero_or_pos n with rfl|hpos
   ·exact .inr (.inl ⟨hp,rfl,no 1 (by omega) hp (n2 (by omega))⟩)
   ·have h1:=(ev n hpos).1 (n1 hpos)
    refine .inr (.inr ⟨hp,hpos,(sl 1 (by omega)).2 (same_one hpos kc kd h1.2),(sl n hpos).2 h1.2,fun h=>no (n+1) (by omega) hp (n2 h)⟩)
  ·refine .inl ⟨hp, ?_⟩
   rcases Nat.eq_zero_or_pos n with h|hpos
   ·exact h
   ·exact absurd ((ev n hpos).1 (n1 hpos)).1 hp
 have sgV: ∀c:ak,-((20000:Nat):Int)≤c.e→bJ c fL=sgn (V 20000 c):=fun c kc=>by
  rw[oY (K:=20000) kc (by show-((20000:Nat):Int)≤0;omega),V_zeroB,Int.sub_zero]
 have sgP: ∀c:ak,-((20000:Nat):Int)≤c.e→(0<V 20000 c↔ ¬bJ c fL≤0):=fun c kc=>by
  rw[sgV c kc,←sgn_posB];omega
 have hM1: ¬(M:Int)<1:=hm1;have hw1:n<M→IntKind.i64.wrap ((n:Int)+1)=((n+1:Nat):Int):=fun h=>by rw[IntWalk.i64_in _ ⟨by omega,by omega⟩];omega
 have hnb:EndR (dV b):=eb;have hna:EndR (dV a):=ea;have HZ:n=0→yH w 5 #[.agg #[.bool a.s,yT ao a.n ca,yi a.e,.bool b.s,yT bo b.n cb,yi b.e],yi (M:Int)] (.tuple #[yi 0,.bool false,yi 0]):=fun h w1 h1=>by
  have:=HK w1 h1;subst h;exact this
 have HP:1≤n→yH w 5 #[.agg #[.bool a.s,yT ao a.n ca,yi a.e,.bool b.s,yT bo b.n cb,yi b.e],yi (M:Int)] (.tuple #[yi (n:Int),.bool true,yi 0]):=fun h w1 h1=>by
  have:=HK w1 h1
  rwa [show decide (0< (n:Int))=true from decide_eq_true (by omega)] at this
 have HPM:n=M→yH w 5 #[.agg #[.bool a.s,yT ao a.n ca,yi a.e,.bool b.s,yT bo b.n cb,yi b.e],yi (M:Int)] (.tuple #[yi (M:Int),.bool true,yi 0]):=fun h w1 h1=>by
  have:=HP (by omega) w1 h1
  rwa [h] at this
 clear HK ev n1 n2 hn hn0 hk
 cases hs:(bare a).s
 ·have HO': ∀w1,yB w w1→yC 8 #[.agg #[.bool a.s,yT ao a.n ca,yi a.e,.bool b.s,yT bo b.n cb,yi b.e]] w1 (fun z w'=> ∃xv yv,z= .returned (.agg #[.bool false,xv,yi (bare a).e,.bool (bare b).s,yv,yi (bare b).e])∧Rd w' .i64 xv (Dg.dg 65536 (bare a).n)∧Rd w' .i64 yv (Dg.dg 65536 (bare b).n)∧yB w1 w'):=fun w1 h=>(HO w1 h).mono fun z w' hz=>by
   obtain⟨p,q,k1,k2,k3,k4⟩:=hz;rw[hs] at k1;exact⟨p,q,k1,k2,k3,k4⟩
  have HD: ∀xo xc w1,yB w w1→Rd w1 .i64 (.slice xo (Dg.dg 65536 (bare a).n).length xc) (Dg.dg 65536 (bare a).n)→yC 13 #[.agg #[.bool false,.slice xo (Dg.dg 65536 (bare a).n).length xc,yi (bare a).e]] w1 (yR w1 (yi (bJ a fL))):=fun xo xc w1 _ r=>BL _ a w1 ⟨_,by rw[hs],r⟩ (by omega) (by omega) (by omega)
  have SM: ∀k:Nat,1≤k→k≤4096→ ∀p q xo xc yo yc w1,yB w w1→w1.rangeAt p 0 [.bool false,.slice xo (Dg.dg 65536 (bare a).n).length xc,yi (bare a).e]→w1.rangeAt q 0 [.bool (bare b).s,.slice yo (Dg.dg 65536 (bare b).n).length yc,yi (bare b).e]→Rd w1 .i64 (.slice xo (Dg.dg 65536 (bare a).n).length xc) (Dg.dg 65536 (bare a).n)→Rd w1 .i64 (.slice yo (Dg.dg 65536 (bare b).n).length yc) (Dg.dg 65536 (bare b).n)→yC 10 #[yi (k:Int),.pointer (some ⟨p,0,none⟩),.pointer (some ⟨q,0,none⟩)] w1 (yR w1 (.bool (sameL (bare a) (bare b) (k:Int)))):=fun k k1 k2 p q xo xc yo yc w1 _ lx ly rx ry=>
   lawSame_any a b xo yo xc yc p q (k:Int) w1 ea eb ⟨by omega,by omega⟩ (by rw[hs];exact lx) ly rx ry
  rcases law a b (by unfold lawA;rw[hs];rfl) (by unfold lawB;rw[hs];rfl) ka kb with⟨q1,q2⟩| ⟨q1,q2,q3⟩| ⟨q1,q2,q3,q4,q5⟩
  ·exact brackets_sign_p (bare a) (bare b) a.s b.s ao bo _ _ ca cb a.e b.e (M:Int) _ w hM1 hm2 (Int.not_lt.1 fun c=>q1 ((sgP a ka).2 (by omega))) (HZ q2) HC0 HB HO' HD
  ·have S1:=SM 1 (by omega) (by omega)
   rw[show((1:Nat):Int)=1 from rfl,q3] at S1
   exact brackets_one_p (bare a) (bare b) a.s b.s ao bo _ _ ca cb a.e b.e (M:Int) _ w hM1 hm2 ((sgP a ka).1 q1) (HZ q2) HC0 HB HO' HD S1
  ·have S1:=SM 1 (by omega) (by omega)
   have S2:=SM n q2 (by omega);rw[show((1:Nat):Int)=1 from rfl,q3] at S1
   rw[q4] at S2
   by_cases hnM:n=M
   ·rw[show(n:Int)=(M:Int) by omega] at S2
    exact brackets_end_p (bare a) (bare b) a.s b.s ao bo _ _ ca cb a.e b.e (M:Int) _ w hM1 hm2 ((sgP a ka).1 q1) (HPM hnM) HC0 HB HO' HD S1 S2
   ·have S3:=SM (n+1) (by omega) (by omega)
    rw[q5 (by omega)] at S3;exact brackets_full_p (bare a) (bare b) a.s b.s ao bo _ _ ca cb a.e b.e (M:Int) (n:Int) _ _ w hM1 hm2 ((sgP a ka).1 q1) (by omega) (by omega) (by rw[beq_eq_false_iff_ne];omega) (hw1 (by omega)) (HP q2) HC0 HB HO' HD S1 S2 S3
 ·have HO': ∀w1,yB w w1→yC 8 #[.agg #[.bool a.s,yT ao a.n ca,yi a.e,.bool b.s,yT bo b.n cb,yi b.e]] w1 (fun z w'=> ∃xv yv,z= .returned (.agg #[.bool true,xv,yi (bare a).e,.bool (bare b).s,yv,yi (bare b).e])∧Rd w' .i64 xv (Dg.dg 65536 (bare a).n)∧Rd w' .i64 yv (Dg.dg 65536 (bare b).n)∧yB w1 w'):=fun w1 h=>(HO w1 h).mono fun z w' hz=>by
   obtain⟨p,q,k1,k2,k3,k4⟩:=hz;rw[hs] at k1;exact⟨p,q,k1,k2,k3,k4⟩
  have M1: ∀yo yc w1,yB w w1→Rd w1 .i64 (.slice yo (Dg.dg 65536 (bare b).n).length yc) (Dg.dg 65536 (bare b).n)→yC 9 #[.agg #[.bool (bare b).s,.slice yo (Dg.dg 65536 (bare b).n).length yc,yi (bare b).e]] w1 (yR w1 (.agg #[.bool (dB (bare b)).s,.slice yo (Dg.dg 65536 (bare b).n).length yc,yi (bare b).e])):=fun yo yc w1 _ r=>ja _ (bare b) w1 r
  have M2: ∀xo xc w1,yB w w1→Rd w1 .i64 (.slice xo (Dg.dg 65536 (bare a).n).length xc) (Dg.dg 65536 (bare a).n)→yC 9 #[.agg #[.bool true,.slice xo (Dg.dg 65536 (bare a).n).length xc,yi (bare a).e]] w1 (yR w1 (.agg #[.bool (dB (bare a)).s,.slice xo (Dg.dg 65536 (bare a).n).length xc,yi (bare a).e])):=fun xo xc w1 _ r=>by
   have:=ja _ (bare a) w1 r
   rwa [hs] at this
  have fnb:(Dg.dg 65536 (bare (dV b)).n).length≤2400∧ -20000≤(bare (dV b)).e∧(bare (dV b)).e≤58400:=eT hnb.1 hnb.2.1 hnb.2.2;have HD: ∀yo yc w1,yB w w1→Rd w1 .i64 (.slice yo (Dg.dg 65536 (bare b).n).length yc) (Dg.dg 65536 (bare b).n)→yC 13 #[.agg #[.bool (dB (bare b)).s,.slice yo (Dg.dg 65536 (bare b).n).length yc,yi (bare b).e]] w1 (yR w1 (yi (bJ (dV b) fL))):=fun yo yc w1 _ r=>by
   have hv:Rv w1 (.agg #[.bool (dB (bare b)).s,.slice yo (Dg.dg 65536 (bare b).n).length yc,yi (bare b).e]) (dB (bare b)):=⟨_,rfl,r⟩;rw[minus_bare] at hv;have:=BL _ (dV b) w1 hv (by omega) (by omega) (by omega)
   rwa [←minus_bare] at this
  have SM: ∀k:Nat,1≤k→k≤4096→ ∀p q yo yc xo xc w1,yB w w1→w1.rangeAt p 0 [.bool (dB (bare b)).s,.slice yo (Dg.dg 65536 (bare b).n).length yc,yi (bare b).e]→w1.rangeAt q 0 [.bool (dB (bare a)).s,.slice xo (Dg.dg 65536 (bare a).n).length xc,yi (bare a).e]→Rd w1 .i64 (.slice yo (Dg.dg 65536 (bare b).n).length yc) (Dg.dg 65536 (bare b).n)→Rd w1 .i64 (.slice xo (Dg.dg 65536 (bare a).n).length xc) (Dg.dg 65536 (bare a).n)→yC 10 #[yi (k:Int),.pointer (some ⟨p,0,none⟩),.pointer (some ⟨q,0,none⟩)] w1 (yR w1 (.bool (sameL (bare (dV b)) (bare (dV a)) (k:Int)))):=fun k k1 k2 p q yo yc xo xc w1 _ ly lx ry rx=>by
   have key:=lawSame_any (dV b) (dV a) yo xo yc xc p q (k:Int) w1 hnb hna ⟨by omega,by omega⟩;rw[←minus_bare,←minus_bare] at key⊢;exact key ly lx ry rx
  rcases law (dV b) (dV a) (by unfold lawA;rw[hs];rfl) (by unfold lawB;rw[hs];rfl) kb ka with⟨q1,q2⟩| ⟨q1,q2,q3⟩| ⟨q1,q2,q3,q4,q5⟩
  ·exact brackets_sign_n (bare a) (bare b) (dB (bare b)).s (dB (bare a)).s a.s b.s ao bo _ _ ca cb a.e b.e (M:Int) _ w hM1 hm2 (Int.not_lt.1 fun c=>q1 ((sgP (dV b) kb).2 (by omega))) (HZ q2) HC0 HB HO' M1 M2 HD
  ·have S1:=SM 1 (by omega) (by omega)
   rw[show((1:Nat):Int)=1 from rfl,q3] at S1
   exact brackets_one_n (bare a) (bare b) (dB (bare b)).s (dB (bare a)).s a.s b.s ao bo _ _ ca cb a.e b.e (M:Int) _ w hM1 hm2 ((sgP (dV b) kb).1 q1) (HZ q2) HC0 HB HO' M1 M2 HD S1
  ·have S1:=SM 1 (by omega) (by omega)
   have S2:=SM n q2 (by omega);rw[show((1:Nat):Int)=1 from rfl,q3] at S1
   rw[q4] at S2
   by_cases hnM:n=M
   ·rw[show(n:Int)=(M:Int) by omega] at S2
    exact brackets_end_n (bare a) (bare b) (dB (bare b)).s (dB (bare a)).s a.s b.s ao bo _ _ ca cb a.e b.e (M:Int) _ w hM1 hm2 ((sgP (dV b) kb).1 q1) (HPM hnM) HC0 HB HO' M1 M2 HD S1 S2
   ·have S3:=SM (n+1) (by omega) (by omega)
    rw[q5 (by omega)] at S3;exact brackets_full_n (bare a) (bare b) (dB (bare b)).s (dB (bare a)).s a.s b.s ao bo _ _ ca cb a.e b.e (M:Int) (n:Int) _ _ w hM1 hm2 ((sgP (dV b) kb).1 q1) (by omega) (by omega) (by rw[beq_eq_false_iff_ne];omega) (hw1 (by omega)) (HP q2) HC0 HB HO' M1 M2 HD S1 S2 S3
end Go.Proofs.YtiakgfmlpdfhdaaGreatDoor

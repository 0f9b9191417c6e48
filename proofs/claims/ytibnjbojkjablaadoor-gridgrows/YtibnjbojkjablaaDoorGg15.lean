/-
  Texts laid together: Dl7, Dl3, Dl8, Dl9, Dt1, Gm3, Gn1, Gn2.
-/
import Derived.Test.YtibnjbojkjablaaDoorGg14
set_option maxRecDepth 100000
set_option maxHeartbeats 3200000
namespace Go.Proofs.YtibnjbojkjablaaDoor
open Go.RowKit
def xw (c:Int)(a b:ak):Int:=if c=0 then dJ (aG a (dV b)) else 0
theorem lT (s:Bool)(ao:Option Addr)(ca:Nat)(xs:List Nat)(e:Int)(t:Bool)(bo:Option Addr)(cb:Nat)(ys:List Nat)(f:Int)(w:World)
  (hr:Rd w .u32 (.slice ao xs.length ca) xs) (hq:Rd w .u32 (.slice bo ys.length cb) ys) (sa:Dg.Small 4294967296 xs) (sb:Dg.Small 4294967296 ys):
  yC 9 #[ydV s (.slice ao xs.length ca) e,ydV t (.slice bo ys.length cb) f] w fun z w'=>
   z= .returned (.tuple #[yi (xw (dQ xs e ys f) ⟨s,Dg.vl 4294967296 xs,e⟩ ⟨t,Dg.vl 4294967296 ys,f⟩),yi (dQ xs e ys f)])∧yB w w':=by
 have bA:=aa (af w (.cells (ydA s (.slice ao xs.length ca) e) 30)) (af _ (.cells (ydA t (.slice bo ys.length cb) f) 30));have la:=(aA w (.bool s) (.slice ao xs.length ca) (yi e) 30).l (af _ (.cells (ydA t (.slice bo ys.length cb) f) 30));have lb:=aA (w.alloc (.cells (ydA s (.slice ao xs.length ca) e) 30)) (.bool t) (.slice bo ys.length cb) (yi f) 30;rw[World.size_alloc] at lb;obtain⟨W,hW⟩: ∃W,((w.alloc (.cells (ydA s (.slice ao xs.length ca) e) 30)).alloc (.cells (ydA t (.slice bo ys.length cb) f) 30))=W:=⟨_,rfl⟩;have sW:W.heap.size=w.heap.size+1+1:=by rw[←hW];simp[World.size_alloc]
 rw[hW] at bA la lb;have bX:=af W (.cells #[.bool s,.slice ao xs.length ca,yi e,.bool t,.slice bo ys.length cb,yi f] 30);have b01:=aa bA bX;have la:=la.l bX;have lb:=lb.l bX;have hw:=xy W.heap.size s ao ca xs e t bo cb ys f (W.alloc (.cells #[.bool s,.slice ao xs.length ca,yi e,.bool t,.slice bo ys.length cb,yi f] 30))
  (by rw[World.cell?_alloc_at _ _ _ _ rfl];rfl) (by rw[World.cell?_alloc_at _ _ _ _ rfl];rfl) (by rw[World.cell?_alloc_at _ _ _ _ rfl];rfl) (by rw[World.cell?_alloc_at _ _ _ _ rfl];rfl) (by rw[World.cell?_alloc_at _ _ _ _ rfl];rfl) (by rw[World.cell?_alloc_at _ _ _ _ rfl];rfl)
  (hr.l b01) (hq.l b01)
 rw[sW] at hw;rw[←hW] at hw la lb b01;have HC:Hid (dQ xs e ys f=0→yH w 19 #[ydV s (.slice ao xs.length ca) e,ydV t (.slice bo ys.length cb) f] (yi (dJ (aG ⟨s,Dg.vl 4294967296 xs,e⟩ (dV ⟨t,Dg.vl 4294967296 ys,f⟩))))):=fun h w1 b1=>by
  obtain⟨h1,h2⟩:=iN h;obtain⟨c1,e1,e2⟩:=bL h1;obtain⟨c2,f1,f2⟩:=bL h2;have z1:=aF c1;have z2:=aF c2;have x1:(Dg.dg 4294967296 (Dg.vl 4294967296 xs)).length≤1200:=by rw[←Dg.eq_dg 4294967296 (by omega) xs _ sa z1.1 rfl];exact z1.2
  have x2:(Dg.dg 4294967296 (Dg.vl 4294967296 ys)).length≤1200:=by rw[←Dg.eq_dg 4294967296 (by omega) ys _ sb z2.1 rfl];exact z2.2
  exact iE _ _ _ _ w1 (jw (hr.l b1) sa z1.1) (jw (hq.l b1) sb z2.1) (by simp only;omega) (by simp only;omega) (by simp only;omega) (by simp only;omega) (by simp only;omega) (by simp only;omega)
 unfold xw;obtain⟨c,hc⟩: ∃c,dQ xs e ys f=c:=⟨_,rfl⟩;rw[hc] at hw HC⊢;obtain⟨g,hg⟩: ∃g,dJ (aG ⟨s,Dg.vl 4294967296 xs,e⟩ (dV ⟨t,Dg.vl 4294967296 ys,f⟩))=g:=⟨_,rfl⟩;rw[hg] at HC⊢;clear hc hg bA bX sW hW hr hq sa sb
 by_cases h:c=0
 ·subst h
  rw[if_pos rfl];have HC2:Hid (yH w 19 #[ydV s (.slice ao xs.length ca) e,ydV t (.slice bo ys.length cb) f] (yi g)):=HC.out rfl;clear HC
  go_enter Tryd.func9,Tryd.ntmps9
  go_wp2_with fail
  refine hw.mono ?_;rintro z w1 ⟨rfl,b1⟩;have la:=la.l b1;have lb:=lb.l b1;have b01:=aa b01 b1;have bd:yB w1 w1.drew:=(Below.refl _ _).drew;have la:=la.l bd;have lb:=lb.l bd;have b02:=aa b01 bd;obtain⟨-,⟨ca0,ca1,ca2⟩,-⟩:=id la;obtain⟨-,⟨cb0,cb1,cb2⟩,-⟩:=id lb;clear hw b1 bd b01
  go_wp2_with fail
  go_region_held3 (fun wq=>(wq.cell? ⟨w.heap.size,0,none⟩=some (.bool s)∧wq.cell? ⟨w.heap.size,1,none⟩=some (.slice ao xs.length ca)∧wq.cell? ⟨w.heap.size,2,none⟩=some (yi e))∧wq.cell? ⟨w.heap.size+1,0,none⟩=some (.bool t)∧wq.cell? ⟨w.heap.size+1,1,none⟩=some (.slice bo ys.length cb)∧wq.cell? ⟨w.heap.size+1,2,none⟩=some (yi f)) (go_keep) (first
   | (go_at_call 18;refine(iK s ao xs.length ca e w1.drew).mono ?_;rintro z w3 ⟨rfl,b3⟩;have la3:=la.l b3;have lb3:=lb.l b3;have b03:=aa b02 b3;obtain⟨-,⟨p0,p1,p2⟩,-⟩:=id la3;obtain⟨-,⟨p3,p4,p5⟩,-⟩:=id lb3;clear b02)
   | (go_at_call 18;refine(iK t bo ys.length cb f w3).mono ?_;rintro z w4 ⟨rfl,b4⟩;have la4:=la3.l b4;have lb4:=lb3.l b4;have b04:=aa b03 b4;obtain⟨-,⟨q0,q1,q2⟩,-⟩:=id la4;obtain⟨-,⟨q3,q4,q5⟩,-⟩:=id lb4)
   | (go_at_call 19;refine(HC2.out w4 b04).mono ?_;rintro z w5 ⟨rfl,b5⟩;have la5:=la4.l b5;have lb5:=lb4.l b5;have b05:=aa b04 b5;obtain⟨-,⟨t0,t1,t2⟩,-⟩:=id la5;obtain⟨-,⟨t3,t4,t5⟩,-⟩:=id lb5))
  all_goals go_wp2
  go_ret2
  exact⟨rfl,b05⟩
 ·rw[if_neg h]
  clear HC
  go_enter Tryd.func9,Tryd.ntmps9
  go_wp2_with fail
  refine hw.mono ?_;rintro z w1 ⟨rfl,b1⟩;have b01:=aa b01 b1;clear hw b1
  go_wp2
  go_ret2
  exact⟨rfl,b01⟩
theorem eT {t:ak}(h:(Dg.dg 4294967296 t.n).length≤1200)(h1: -20000≤t.e)(h2:t.e≤20000):(Dg.dg 65536 (bare t).n).length≤2400∧ -20000≤(bare t).e∧(bare t).e≤58400:=by
 have h3:=gZ t.n 1200 h;have h4:=im t.n 1200 h;unfold bare
 split
 ·exact⟨by show([]:List Nat).length≤2400;simp,by simp,by simp⟩
 ·refine⟨Nat.le_trans (aH 65536 _ t.n (by omega) (Nat.div_le_self _ _)) (by omega), ?_, ?_⟩
  ·simp only;omega
  ·simp only;omega
theorem kR (t:ak):(bare t).n≤t.n:=by
 unfold bare
 split
 ·exact Nat.zero_le _
 ·exact Nat.div_le_self _ _
def dB (t:ak):ak:=⟨!t.s&&decide (0<t.n),t.n,t.e⟩
theorem EI (K:Nat)(t:ak):V K (dB t)= -V K t:=by
 rw[←pC,eV,eV];unfold dB dV;simp only
 by_cases h:0<t.n
 ·simp[h]
 ·have h0:t.n=0:=by omega
  rw[h0,Nat.zero_mul];simp[sz]
theorem acR (K:Nat)(t:ak):dJ t=sgn (V K t):=(Di K t).symm
theorem lP (A B:ak):dJ (bare (cO (bare A) (dB (bare B))))=dJ (aG A (dV B)):=by
 have h1: -((A.e.natAbs+B.e.natAbs:Nat):Int)≤A.e:=by omega
 have h2: -((A.e.natAbs+B.e.natAbs:Nat):Int)≤B.e:=by omega
 have h3: -((A.e.natAbs+B.e.natAbs:Nat):Int)≤(dB (bare B)).e:=eL h2;rw[acR (A.e.natAbs+B.e.natAbs),dw (zy (eL h1) h3),zx (eL h1) h3,EI,dw h1,dw h2,CB]
 congr 1
theorem ja (s0:Value)(t:ak)(w:World)(hr:Rd w .i64 s0 (Dg.dg 65536 t.n)):yC 21 #[ydV t.s s0 t.e] w (yR w (.agg #[.bool (dB t).s,s0,yi (dB t).e])):=by
 obtain⟨ao,ca,rfl⟩:=hr.shape;obtain⟨ts,n,e⟩:=t;have hnl:=Dg.dg_nil_iff 65536 n (by omega);simp only at hr⊢;unfold dB;simp only;have hz:(0< (Dg.dg 65536 n).length)↔0<n:=by
  rw[List.length_pos_iff,Ne,hnl];omega
 obtain⟨m,hm⟩: ∃m,(Dg.dg 65536 n).length=m:=⟨_,rfl⟩;rw[hm] at hz hr⊢;clear hr
 by_cases h:0<n
 ·have h6:=hz.2 h
  rw[decide_eq_true h,Bool.and_true];clear hz h hm hnl
  cases ts
  ·go_enter Tryd.func21,Tryd.ntmps21
   go_wp2
   go_returns
   exact⟨rfl,aa (af w _) (af _ _)⟩
  ·go_enter Tryd.func21,Tryd.ntmps21
   go_wp2
   go_returns
   exact⟨rfl,aa (af w _) (af _ _)⟩
 ·have h6: ¬0<m:=fun e=>h (hz.1 e)
  rw[decide_eq_false h,Bool.and_false];clear hz h hm hnl
  cases ts
  ·go_enter Tryd.func21,Tryd.ntmps21
   go_wp2
   go_returns
   exact⟨rfl,aa (af w _) (af _ _)⟩
  ·go_enter Tryd.func21,Tryd.ntmps21
   go_wp2
   go_returns
   exact⟨rfl,aa (af w _) (af _ _)⟩
theorem uI (v:Value)(t:ak)(w:World)(hv:Rv w v t):yC 21 #[v] w (dr w (dB t)):=by
 obtain⟨s0,rfl,hr⟩:=hv;refine(ja s0 t w hr).mono ?_;rintro z w' ⟨rfl,b⟩;exact⟨_,rfl,hr.l b,b⟩
theorem gQ (v u:Value)(a b:ak)(w:World)(hv:Rv w v a)(hu:Rv w u b)(hLa:(Dg.dg 65536 a.n).length≤30000)(hLb:(Dg.dg 65536 b.n).length≤30000)
  (ha1: -200000≤a.e) (ha2:a.e≤200000) (hb1: -200000≤b.e) (hb2:b.e≤200000):
  Calls Tryd.prog 10 #[v,u] w fun z w'=>z= .returned (.int .i64 (dJ (bare (cO a (dB b)))))∧Below w.heap.size w w':=by
 have HM:Hid (∀w1,Below w.heap.size w w1→Calls Tryd.prog 21 #[u] w1 (dr w1 (dB b))):=fun w1 b1=>uI u b w1 (hu.l b1)
 have HP:Hid (∀x w1,Below w.heap.size w w1→Rv w1 x (dB b)→Calls Tryd.prog 20 #[v,x] w1 (dr w1 (bare (cO a (dB b))))):=fun x w1 b1 hx=>lw v x a (dB b) w1 (hv.l b1) hx hLa hLb ha1 ha2 hb1 hb2
 obtain⟨s0,rfl,ra⟩:=hv;obtain⟨ao,ca,rfl⟩:=ra.shape;obtain⟨s1,rfl,rb⟩:=hu;obtain⟨bo,cb,rfl⟩:=rb.shape;obtain⟨⟨rs,rn,re⟩,hT⟩: ∃T,bare (cO a (dB b))=T:=⟨_,rfl⟩;rw[hT] at HP⊢;obtain⟨⟨ms,mn,me⟩,hMT⟩: ∃T,dB b=T:=⟨_,rfl⟩;rw[hMT] at HP HM;have hnl:=Dg.dg_nil_iff 65536 rn (by omega);obtain⟨ma,hma⟩: ∃m,(Dg.dg 65536 a.n).length=m:=⟨_,rfl⟩;obtain⟨mb,hmb⟩: ∃m,(Dg.dg 65536 b.n).length=m:=⟨_,rfl⟩;rw[hma] at HP⊢;rw[hmb] at HM⊢;obtain⟨sa,an,ae⟩:=a;obtain⟨sb,bn,be⟩:=b;simp only at HP HM⊢;clear hT hma hmb ra rb hLa hLb hMT;unfold dJ;simp only;have bA:=aa (af w (.cells #[.bool sa,.slice ao ma ca,.int .i64 ae] 35)) (af _ (.cells #[.bool sb,.slice bo mb cb,.int .i64 be] 35));have la:=(aA w (.bool sa) (.slice ao ma ca) (.int .i64 ae) 35).l (af _ (.cells #[.bool sb,.slice bo mb cb,.int .i64 be] 35));have lb:=aA (w.alloc (.cells #[.bool sa,.slice ao ma ca,.int .i64 ae] 35)) (.bool sb) (.slice bo mb cb) (.int .i64 be) 35;rw[World.size_alloc] at lb;obtain⟨W,hW⟩: ∃W,((w.alloc (.cells #[.bool sa,.slice ao ma ca,.int .i64 ae] 35)).alloc (.cells #[.bool sb,.slice bo mb cb,.int .i64 be] 35))=W:=⟨_,rfl⟩;rw[hW] at bA la lb;have bd:Below W.heap.size W W.drew:=(Below.refl _ _).drew;have b02:=aa bA bd;have la2:=la.l bd;have lb2:=lb.l bd;have lzW:=aA W.drew (.bool false) (.slice none 0 0) (.int .i64 0) 35;have sW:W.drew.heap.size=w.heap.size+1+1:=by rw[←hW];simp[World.size_alloc]
 rw[sW] at lzW;rw[←hW] at b02 la2 lb2 lzW;obtain⟨-,⟨c0,c1,c2⟩,-⟩:=id la2;obtain⟨-,⟨c3,c4,c5⟩,-⟩:=id lb2;clear bA la lb bd hW sW;have ne3:w.heap.size+1+1≠w.heap.size:=by omega
 have ne4:w.heap.size+1+1≠w.heap.size+1:=by omega
 go_enter Tryd.func10,Tryd.ntmps10
 go_wp2_with fail
 go_region_held3 (fun wq=>(wq.cell? ⟨w.heap.size,0,none⟩=some (.bool sa)∧wq.cell? ⟨w.heap.size,1,none⟩=some (.slice ao ma ca)∧wq.cell? ⟨w.heap.size,2,none⟩=some (.int .i64 ae))∧wq.cell? ⟨w.heap.size+1,0,none⟩=some (.bool sb)∧wq.cell? ⟨w.heap.size+1,1,none⟩=some (.slice bo mb cb)∧wq.cell? ⟨w.heap.size+1,2,none⟩=some (.int .i64 be)) (go_keep) (first
   | (go_at_call 21;refine(HM.out _ b02).mono ?_;rintro z w3 ⟨v1,rfl,q1,b3⟩;have la3:=la2.l b3;have lb3:=lb2.l b3;have b03:=aa b02 b3;obtain⟨-,⟨p0,p1,p2⟩,-⟩:=id la3;obtain⟨-,⟨p3,p4,p5⟩,-⟩:=id lb3;have x0:=World.new_ne w3 _ p0;have x1:=World.new_ne w3 _ p3)
   | (go_at_call 21;refine(HM.out _ (aa b02 (af _ (.cells #[.bool false,.slice none 0 0,.int .i64 0] 35)))).mono ?_;rintro z w3 ⟨v1,rfl,q1,b3⟩;have la3:=(la2.l (af _ (.cells #[.bool false,.slice none 0 0,.int .i64 0] 35))).l b3;have lb3:=(lb2.l (af _ (.cells #[.bool false,.slice none 0 0,.int .i64 0] 35))).l b3;have b03:=aa (aa b02 (af _ (.cells #[.bool false,.slice none 0 0,.int .i64 0] 35))) b3;have lz3:=lzW.l b3;obtain⟨-,⟨p0,p1,p2⟩,-⟩:=id la3;obtain⟨-,⟨p3,p4,p5⟩,-⟩:=id lb3;have x0:=World.new_ne w3 _ p0;have x1:=World.new_ne w3 _ p3)
   | (go_at_call 20;refine(HP.out _ w3 b03 ⟨_,rfl,q1⟩).mono ?_;rintro z w4 ⟨v2,rfl,q2,b4⟩;obtain⟨tq,tc,hvt⟩:=q2.shape;subst hvt;have la4:=la3.l b4;have lb4:=lb3.l b4;have b04:=aa b03 b4;(try (have lz4:=lz3.l b4;obtain⟨-,⟨d0,d1,d2⟩,f0,f1,f2⟩:=id lz4));obtain⟨-,⟨u0,u1,u2⟩,-⟩:=id la4;obtain⟨-,⟨u3,u4,u5⟩,-⟩:=id lb4;have y0:=World.new_ne w4 _ u0;have y1:=World.new_ne w4 _ u3)
   | (go_at_call 20;refine(HP.out _ _ (aa b03 (af _ (.cells #[.bool false,.slice none 0 0,.int .i64 0] 35))) ⟨_,rfl,q1.l (af _ (.cells #[.bool false,.slice none 0 0,.int .i64 0] 35))⟩).mono ?_;rintro z w4 ⟨v2,rfl,q2,b4⟩;obtain⟨tq,tc,hvt⟩:=q2.shape;subst hvt;have la4:=(la3.l (af _ (.cells #[.bool false,.slice none 0 0,.int .i64 0] 35))).l b4;have lb4:=(lb3.l (af _ (.cells #[.bool false,.slice none 0 0,.int .i64 0] 35))).l b4;have b04:=aa (aa b03 (af _ (.cells #[.bool false,.slice none 0 0,.int .i64 0] 35))) b4;have lz4:=(aA w3 (.bool false) (.slice none 0 0) (.int .i64 0) 35).l b4;obtain⟨-,⟨d0,d1,d2⟩,f0,f1,f2⟩:=id lz4;obtain⟨-,⟨u0,u1,u2⟩,-⟩:=id la4;obtain⟨-,⟨u3,u4,u5⟩,-⟩:=id lb4))
 ·have hlen:(Dg.dg 65536 rn).length=0↔rn=0:=by rw[List.length_eq_zero_iff];exact hnl
  have hs3:=b03.size;have bZ:=aa b04 (af w4 (.cells #[.bool rs,.slice tq (Dg.dg 65536 rn).length tc,.int .i64 re] 35));clear la2 lb2 lzW c0 c1 c2 c3 c4 c5 HP HM la3 lb3 p0 p1 p2 p3 p4 p5 q1 q2 la4 lb4 hnl b02 b03 b04 b3 b4 x0 x1 ne3 ne4
  by_cases h:rn=0
  ·have h6:=hlen.2 h
   have H:Hid (rn=0):=h;rw[h6] at bZ;clear hlen h
   go_wp2
   go_ret
   exact⟨by first|rfl|rw[if_pos H.out],bZ⟩
  ·have h7: ¬(Dg.dg 65536 rn).length=0:=fun e=>h (hlen.1 e)
   have H:Hid (¬rn=0):=h;have h6:(((Dg.dg 65536 rn).length:Int)==0)=false:=by
    revert h7
    generalize(Dg.dg 65536 rn).length=mr;intro h7;simp;exact h7
   clear hlen h h7
   cases rs
   ·go_wp2
    go_ret
    exact⟨by first|rfl| (rw[if_neg H.out];rfl),bZ⟩
   ·go_wp2
    go_ret
    exact⟨by first|rfl| (rw[if_neg H.out];rfl),bZ⟩
 ·obtain⟨-,⟨g0,g1,g2⟩,-⟩:=aD lz4 (.bool rs) (.slice tq (Dg.dg 65536 rn).length tc) (.int .i64 re)
  have hlen:(Dg.dg 65536 rn).length=0↔rn=0:=by rw[List.length_eq_zero_iff];exact hnl
  have hs3:=b03.size;have bZ:=am b04 hs3 (.bool rs) (.slice tq (Dg.dg 65536 rn).length tc) (.int .i64 re);clear la2 lb2 lzW c0 c1 c2 c3 c4 c5 HP HM la3 lb3 p0 p1 p2 p3 p4 p5 q1 q2 la4 lb4 hnl b02 b03 b04 b3 b4 x0 x1 ne3 ne4
  by_cases h:rn=0
  ·have h6:=hlen.2 h
   have H:Hid (rn=0):=h;rw[h6] at bZ;clear hlen h
   go_wp2
   go_ret
   exact⟨by first|rfl|rw[if_pos H.out],bZ⟩
  ·have h7: ¬(Dg.dg 65536 rn).length=0:=fun e=>h (hlen.1 e)
   have H:Hid (¬rn=0):=h;have h6:(((Dg.dg 65536 rn).length:Int)==0)=false:=by
    revert h7
    generalize(Dg.dg 65536 rn).length=mr;intro h7;simp;exact h7
   clear hlen h h7
   cases rs
   ·go_wp2
    go_ret
    exact⟨by first|rfl| (rw[if_neg H.out];rfl),bZ⟩
   ·go_wp2
    go_ret
    exact⟨by first|rfl| (rw[if_neg H.out];rfl),bZ⟩
 ·obtain⟨-,⟨g0,g1,g2⟩,-⟩:=aD lz4 (.bool rs) (.slice tq (Dg.dg 65536 rn).length tc) (.int .i64 re)
  have hlen:(Dg.dg 65536 rn).length=0↔rn=0:=by rw[List.length_eq_zero_iff];exact hnl
  have hs3:=b03.size;have bZ:=am b04 (show w.heap.size≤w.heap.size+1+1 by omega) (.bool rs) (.slice tq (Dg.dg 65536 rn).length tc) (.int .i64 re)
  clear la2 lb2 lzW c0 c1 c2 c3 c4 c5 HP HM la3 lb3 p0 p1 p2 p3 p4 p5 q1 q2 la4 lb4 hnl b02 b03 b04 b3 b4 x0 x1 ne3 ne4
  by_cases h:rn=0
  ·have h6:=hlen.2 h
   have H:Hid (rn=0):=h;rw[h6] at bZ;clear hlen h
   go_wp2
   go_ret
   exact⟨by first|rfl|rw[if_pos H.out],bZ⟩
  ·have h7: ¬(Dg.dg 65536 rn).length=0:=fun e=>h (hlen.1 e)
   have H:Hid (¬rn=0):=h;have h6:(((Dg.dg 65536 rn).length:Int)==0)=false:=by
    revert h7
    generalize(Dg.dg 65536 rn).length=mr;intro h7;simp;exact h7
   clear hlen h h7
   cases rs
   ·go_wp2
    go_ret
    exact⟨by first|rfl| (rw[if_neg H.out];rfl),bZ⟩
   ·go_wp2
    go_ret
    exact⟨by first|rfl| (rw[if_neg H.out];rfl),bZ⟩
theorem nt {n:Nat}{e:Int}(h:(Dg.dg 4294967296 n).length≤1200)(h1: -20000≤e)(h2:e≤20000):aS (Dg.dg 4294967296 n) e=0:=by
 unfold aS;rw[pJ (Dg.norm_dg _ _ (by omega)) h,if_pos rfl,if_neg (by omega)]
theorem uD (R:Int){a b:Int}(h:a≤b):(ai R:Int)*a≤(ai R:Int)*b:=by
 unfold ai
 split<;>omega
theorem Zq (R D L G:Int)(gr ng:Bool)(ao:Option Addr)(la ca:Nat)(p wd:Int)(w:World)(WP:IntKind.i64.wrap (wd*p)=wd*p)
  (HW:yJ 45 #[ygV R D L G gr] (yi wd)):
  yC 28 #[ygV R D L G gr,.bool ng,.agg #[.slice ao la ca,yi p]] w (yR w (ydV ng (.slice ao la ca) (wd*p))):=by
 replace HW:Hid _:=HW;have HN:Hid (∀w1,yC 51 (ydA ng (.slice ao la ca) (wd*p)) w1 (yR w1 (ydV ng (.slice ao la ca) (wd*p)))):=fun w1=>l9 ng ao la ca (wd*p) w1
 have b1:=aa (aa (af w (.cells (ygA R D L G gr) 65)) (af _ (.cells #[.slice ao la ca,yi p] 73))) (af _ (.cells (ydA false (.slice none 0 0) 0) 57));have g1:=((ah w (ygL R D L G gr) 65).l (af _ (.cells #[.slice ao la ca,yi p] 73))).l (af _ (.cells (ydA false (.slice none 0 0) 0) 57));have s1:=(ah (w.alloc (.cells (ygA R D L G gr) 65)) [.slice ao la ca,yi p] 73).l (af _ (.cells (ydA false (.slice none 0 0) 0) 57));have c1:=ah ((w.alloc (.cells (ygA R D L G gr) 65)).alloc (.cells #[.slice ao la ca,yi p] 73)) (ydL false (.slice none 0 0) 0) 57;simp only[World.size_alloc] at s1 c1;have g_2:=g1.l ((Below.refl _ _).drew);have s_2:=s1.l ((Below.refl _ _).drew);have c_2:=c1.l ((Below.refl _ _).drew);have b0_2:=aa b1 ((Below.refl _ _).drew);clear g1 s1 c1 b1;obtain⟨x0,x1,x2,x3,x4⟩:=g_2.cs5;obtain⟨y0,y1⟩:=s_2.cs2;have nA:w.heap.size+1+1≠w.heap.size:=by omega
 have nB:w.heap.size+1+1≠w.heap.size+1:=by omega
 go_enter Tryd.func28,Tryd.ntmps28
 go_wp2_with fail
 go_region_held3 (fun wq=>wq.cell? ⟨w.heap.size,0,none⟩=some (yi R)∧wq.cell? ⟨w.heap.size,1,none⟩=some (yi D)∧wq.cell? ⟨w.heap.size,2,none⟩=some (yi L)∧wq.cell? ⟨w.heap.size,3,none⟩=some (yi G)∧wq.cell? ⟨w.heap.size,4,none⟩=some (.bool gr)∧wq.cell? ⟨w.heap.size+1,0,none⟩=some (.slice ao la ca)∧wq.cell? ⟨w.heap.size+1,1,none⟩=some (yi p)) (go_keep) (first
  | (go_at_call 45;have hgd:=b0_2;clear hgd;refine(HW.out _).mono ?_;rintro z wa ⟨rfl,bb_wa⟩;have b0_wa:=aa b0_2 bb_wa;have g_wa:=g_2.l bb_wa;have s_wa:=s_2.l bb_wa;have c_wa:=c_2.l bb_wa;obtain⟨xa0,xa1,xa2,xa3,xa4⟩:=g_wa.cs5;obtain⟨ya0,ya1⟩:=s_wa.cs2;clear b0_2)
  | (go_at_call 51;have hgd:=b0_wa;clear hgd;refine(HN.out _).mono ?_;rintro z wb ⟨rfl,bb_wb⟩;have b0_wb:=aa b0_wa bb_wb;have g_wb:=g_wa.l bb_wb;have s_wb:=s_wa.l bb_wb;have c_wb:=c_wa.l bb_wb;obtain⟨xb0,xb1,xb2,xb3,xb4⟩:=g_wb.cs5;obtain⟨yb0,yb1⟩:=s_wb.cs2;have z0:=c_wb.c 0 rfl;have e0:=c_wb.f 0;have z1:=c_wb.c 1 rfl;have e1:=c_wb.f 1;have z2:=c_wb.c 2 rfl;have e2:=c_wb.f 2;clear b0_wa))
 all_goals go_wp2
 have bu:But (w.heap.size+1+1) wb (((wb.setCell ⟨w.heap.size+1+1,0,none⟩ (.bool ng)).setCell ⟨w.heap.size+1+1,1,none⟩ (.slice ao la ca)).setCell ⟨w.heap.size+1+1,2,none⟩ (yi (wd*p))):=((ag wb (w.heap.size+1+1) 0 (.bool ng)).trans (ag _ (w.heap.size+1+1) 1 (.slice ao la ca))).trans (ag _ (w.heap.size+1+1) 2 (yi (wd*p)));have cX:au (((wb.setCell ⟨w.heap.size+1+1,0,none⟩ (.bool ng)).setCell ⟨w.heap.size+1+1,1,none⟩ (.slice ao la ca)).setCell ⟨w.heap.size+1+1,2,none⟩ (yi (wd*p))) (w.heap.size+1+1) 57 (ydL ng (.slice ao la ca) (wd*p)):=((c_wb.set 0 (.bool ng)).set 1 (.slice ao la ca)).set 2 (yi (wd*p));have bX:=bu.below b0_wb (show w.heap.size≤w.heap.size+1+1 by omega)
 obtain⟨s0,s1,s2⟩:=cX.cs3;refine bodyPost_ret (v:=(ydV ng (.slice ao la ca) (wd*p))) (by simp[results,Tryd.results28,go_sem,s0,s1,s2]) rfl ?_;exact⟨rfl,bX⟩
theorem Zr (R D L G:Int)(gr s:Bool)(ao:Option Addr)(la ca:Nat)(p:Int)(x1 x2 x3:Bool)(wd nc gc c:Int)(far rs:Bool)(rn:Nat)(re:Int)(w:World)
  (HA: ¬nc=0→rs=false∧rn=0∧re=0∧c=nc) (HB:nc=0→ ¬gc=0→rs=false∧rn=0∧re=0∧c=gc) (HC:nc=0→gc=0→far=true→rs=false∧rn=0∧re=0∧c=3)
  (HN:yH w 25 #[.slice ao la ca] (yi nc))
  (HG:yJ 26 #[ygV R D L G gr] (yi gc))
  (HF: ∀w1,yC 27 #[yi p,yi 20000] w1 fun z w'=>z= .returned (.bool far)∧w'=w1)
  (HM:nc=0→gc=0→far=false→yJ 28 #[ygV R D L G gr,.bool s,.agg #[.slice ao la ca,yi p]] (ydV s (.slice ao la ca) (wd*p)))
  (HS:nc=0→gc=0→far=false→ ∀w1,yB w w1→yC 29 #[ydV s (.slice ao la ca) (wd*p)] w1 (gR w1 (⟨rs,rn,re⟩,c))):
  yC 13 #[ypV s (.slice ao la ca) p x1 x2 x3,ygV R D L G gr] w (gR w (⟨rs,rn,re⟩,c)):=by
 replace HA:Hid _:=HA;replace HB:Hid _:=HB;replace HC:Hid _:=HC;replace HN:Hid _:=HN;replace HG:Hid _:=HG;replace HF:Hid _:=HF;replace HM:Hid _:=HM;replace HS:Hid _:=HS;have b1:=aa (aa (af w (.cells (ypA s (.slice ao la ca) p x1 x2 x3) 45)) (af _ (.cells (ygA R D L G gr) 27))) (af _ (.cells (ydA false (.slice none 0 0) 0) 30));have q1:=((ah w (ypL s (.slice ao la ca) p x1 x2 x3) 45).l (af _ (.cells (ygA R D L G gr) 27))).l (af _ (.cells (ydA false (.slice none 0 0) 0) 30));have g1:=(ah (w.alloc (.cells (ypA s (.slice ao la ca) p x1 x2 x3) 45)) (ygL R D L G gr) 27).l (af _ (.cells (ydA false (.slice none 0 0) 0) 30));have c1:=ah ((w.alloc (.cells (ypA s (.slice ao la ca) p x1 x2 x3) 45)).alloc (.cells (ygA R D L G gr) 27)) (ydL false (.slice none 0 0) 0) 30;simp only[World.size_alloc] at g1 c1
 by_cases hn:nc=0
 ·have HB1:Hid _:=HB.out hn
  have HC1:Hid _:=HC.out hn;have HM1:Hid _:=HM.out hn;have HS1:Hid _:=HS.out hn;clear HA HB HC HM HS;subst hn
  by_cases hg:gc=0
  ·have HC2:Hid _:=HC1.out hg
   have HM2:Hid _:=HM1.out hg;have HS2:Hid _:=HS1.out hg;clear HB1 HC1 HM1 HS1;subst hg
   cases far
   ·have HM3:Hid _:=HM2.out rfl
    have HS3:Hid _:=HS2.out rfl;clear HC2 HM2 HS2;have y1:=q1.c 1 rfl
    go_enter Tryd.func13,Tryd.ntmps13
    go_wp2_with fail
    refine(HN.out _ b1).mono ?_;rintro z w2 ⟨rfl,bb2⟩;clear y1;have q_2:=q1.l bb2;have g_2:=g1.l bb2;have c_2:=c1.l bb2;have b0_2:=aa b1 bb2;clear q1 g1 c1 b1 bb2;obtain⟨x0,x1,x2,x3,x4⟩:=g_2.cs5
    go_wp2_with fail
    refine(HG.out _).mono ?_;rintro z w3 ⟨rfl,bb3⟩;have q_3:=q_2.l bb3;have g_3:=g_2.l bb3;have c_3:=c_2.l bb3;have b0_3:=aa b0_2 bb3;clear q_2 g_2 c_2 b0_2 bb3;clear x0 x1 x2 x3 x4;obtain⟨y0,y1,y2⟩:=q_3.cs3;obtain⟨x0,x1,x2,x3,x4⟩:=g_3.cs5
    go_wp2_with fail
    refine(HF.out _).mono ?_;rintro z w4 ⟨rfl,rfl⟩
    go_wp2_with fail
    refine(HM3.out _).mono ?_;rintro z w5 ⟨rfl,bb5⟩;clear x0 x1 x2 x3 x4 y0 y1 y2;have q_4:=q_3.l bb5;have g_4:=g_3.l bb5;have c_4:=c_3.l bb5;have b0_4:=aa b0_3 bb5;clear q_3 g_3 c_3 b0_3 bb5;have hlt:w.heap.size+1+1<w5.heap.size:=c_4.lt
    go_wp2_with fail
    refine(HS3.out _ b0_4).mono ?_;rintro z w6 ⟨vr,rfl,o6,bb5⟩;have q_5:=q_4.l bb5;have g_5:=g_4.l bb5;have c_5:=c_4.l bb5;have b0_5:=aa b0_4 bb5;clear q_4 g_4 c_4 b0_4 bb5;obtain⟨so,sc,hvr⟩:=o6.rd.shape;subst hvr;have d0:=c_5.c 0 rfl;have f0:=c_5.f 0;have d1:=c_5.c 1 rfl;have f1:=c_5.f 1;have d2:=c_5.c 2 rfl;have f2:=c_5.f 2
    go_wp2
    have bu:But (w.heap.size+1+1) w6 (((w6.setCell ⟨w.heap.size+1+1,0,none⟩ (.bool rs)).setCell ⟨w.heap.size+1+1,1,none⟩ (.slice so (Dg.dg 4294967296 rn).length sc)).setCell ⟨w.heap.size+1+1,2,none⟩ (yi re)):=((ag w6 (w.heap.size+1+1) 0 (.bool rs)).trans (ag _ (w.heap.size+1+1) 1 (.slice so (Dg.dg 4294967296 rn).length sc))).trans (ag _ (w.heap.size+1+1) 2 (yi re));have cX:au (((w6.setCell ⟨w.heap.size+1+1,0,none⟩ (.bool rs)).setCell ⟨w.heap.size+1+1,1,none⟩ (.slice so (Dg.dg 4294967296 rn).length sc)).setCell ⟨w.heap.size+1+1,2,none⟩ (yi re)) (w.heap.size+1+1) 30 (ydL rs (.slice so (Dg.dg 4294967296 rn).length sc) re):=((c_5.set 0 (.bool rs)).set 1 (.slice so (Dg.dg 4294967296 rn).length sc)).set 2 (yi re);have bX:=bu.below b0_5 (show w.heap.size≤w.heap.size+1+1 by omega)
    have oX:=bu.own o6 c_5 (by decide);obtain⟨s0,s1,s2⟩:=cX.cs3;refine bodyPost_ret (v:= .tuple #[ydV rs (.slice so (Dg.dg 4294967296 rn).length sc) re,yi c]) (by simp[results,Tryd.results13,go_sem,s0,s1,s2]) rfl ?_;exact⟨_,rfl,oX.lower (by omega),bX⟩
   ·obtain⟨h1,h2,h3,h4⟩:=HC2.out rfl
    clear HC2 HM2 HS2;subst h1 h2 h3 h4;have y1:=q1.c 1 rfl
    go_enter Tryd.func13,Tryd.ntmps13
    go_wp2_with fail
    refine(HN.out _ b1).mono ?_;rintro z w2 ⟨rfl,bb2⟩;clear y1;have q_2:=q1.l bb2;have g_2:=g1.l bb2;have c_2:=c1.l bb2;have b0_2:=aa b1 bb2;clear q1 g1 c1 b1 bb2;obtain⟨x0,x1,x2,x3,x4⟩:=g_2.cs5
    go_wp2_with fail
    refine(HG.out _).mono ?_;rintro z w3 ⟨rfl,bb3⟩;have q_3:=q_2.l bb3;have g_3:=g_2.l bb3;have c_3:=c_2.l bb3;have b0_3:=aa b0_2 bb3;clear q_2 g_2 c_2 b0_2 bb3;clear x0 x1 x2 x3 x4;have y2:=q_3.c 2 rfl
    go_wp2_with fail
    refine(HF.out _).mono ?_;rintro z w4 ⟨rfl,rfl⟩;clear y2;have d0:=c_3.c 0 rfl;have f0:=c_3.f 0;have d1:=c_3.c 1 rfl;have f1:=c_3.f 1;have d2:=c_3.c 2 rfl;have f2:=c_3.f 2
    go_wp2
    have bu:But (w.heap.size+1+1) w4 (((w4.setCell ⟨w.heap.size+1+1,0,none⟩ (.bool false)).setCell ⟨w.heap.size+1+1,1,none⟩ (.slice none 0 0)).setCell ⟨w.heap.size+1+1,2,none⟩ (yi 0)):=((ag w4 (w.heap.size+1+1) 0 (.bool false)).trans (ag _ (w.heap.size+1+1) 1 (.slice none 0 0))).trans (ag _ (w.heap.size+1+1) 2 (yi 0));have cX:au (((w4.setCell ⟨w.heap.size+1+1,0,none⟩ (.bool false)).setCell ⟨w.heap.size+1+1,1,none⟩ (.slice none 0 0)).setCell ⟨w.heap.size+1+1,2,none⟩ (yi 0)) (w.heap.size+1+1) 30 (ydL false (.slice none 0 0) 0):=((c_3.set 0 (.bool false)).set 1 (.slice none 0 0)).set 2 (yi 0);have bX:=bu.below b0_3 (show w.heap.size≤w.heap.size+1+1 by omega)
    obtain⟨s0,s1,s2⟩:=cX.cs3;refine bodyPost_ret (v:= .tuple #[ydV false (.slice none 0 0) 0,yi 3]) (by simp[results,Tryd.results13,go_sem,s0,s1,s2]) rfl ?_;exact⟨_,rfl,aQ _ _ _ _,bX⟩
  ·obtain⟨h1,h2,h3,h4⟩:=HB1.out hg
   clear HB1 HC1 HM1 HS1;have hgf:(gc==0)=false:=by simp[hg]
   subst h1 h2 h3 h4;have y1:=q1.c 1 rfl
   go_enter Tryd.func13,Tryd.ntmps13
   go_wp2_with fail
   refine(HN.out _ b1).mono ?_;rintro z w2 ⟨rfl,bb2⟩;clear y1;have q_2:=q1.l bb2;have g_2:=g1.l bb2;have c_2:=c1.l bb2;have b0_2:=aa b1 bb2;clear q1 g1 c1 b1 bb2;obtain⟨x0,x1,x2,x3,x4⟩:=g_2.cs5
   go_wp2_with fail
   refine(HG.out _).mono ?_;rintro z w3 ⟨rfl,bb3⟩;have q_3:=q_2.l bb3;have g_3:=g_2.l bb3;have c_3:=c_2.l bb3;have b0_3:=aa b0_2 bb3;clear q_2 g_2 c_2 b0_2 bb3;clear x0 x1 x2 x3 x4;have d0:=c_3.c 0 rfl;have f0:=c_3.f 0;have d1:=c_3.c 1 rfl;have f1:=c_3.f 1;have d2:=c_3.c 2 rfl;have f2:=c_3.f 2
   go_wp2
   have bu:But (w.heap.size+1+1) w3 (((w3.setCell ⟨w.heap.size+1+1,0,none⟩ (.bool false)).setCell ⟨w.heap.size+1+1,1,none⟩ (.slice none 0 0)).setCell ⟨w.heap.size+1+1,2,none⟩ (yi 0)):=((ag w3 (w.heap.size+1+1) 0 (.bool false)).trans (ag _ (w.heap.size+1+1) 1 (.slice none 0 0))).trans (ag _ (w.heap.size+1+1) 2 (yi 0));have cX:au (((w3.setCell ⟨w.heap.size+1+1,0,none⟩ (.bool false)).setCell ⟨w.heap.size+1+1,1,none⟩ (.slice none 0 0)).setCell ⟨w.heap.size+1+1,2,none⟩ (yi 0)) (w.heap.size+1+1) 30 (ydL false (.slice none 0 0) 0):=((c_3.set 0 (.bool false)).set 1 (.slice none 0 0)).set 2 (yi 0);have bX:=bu.below b0_3 (show w.heap.size≤w.heap.size+1+1 by omega)
   obtain⟨s0,s1,s2⟩:=cX.cs3;refine bodyPost_ret (v:= .tuple #[ydV false (.slice none 0 0) 0,yi c]) (by simp[results,Tryd.results13,go_sem,s0,s1,s2]) rfl ?_;exact⟨_,rfl,aQ _ _ _ _,bX⟩
 ·obtain⟨h1,h2,h3,h4⟩:=HA.out hn
  clear HA HB HC HM HS;have hnf:(nc==0)=false:=by simp[hn]
  subst h1 h2 h3 h4;have y1:=q1.c 1 rfl
  go_enter Tryd.func13,Tryd.ntmps13
  go_wp2_with fail
  refine(HN.out _ b1).mono ?_;rintro z w2 ⟨rfl,bb2⟩;clear y1;have q_2:=q1.l bb2;have g_2:=g1.l bb2;have c_2:=c1.l bb2;have b0_2:=aa b1 bb2;clear q1 g1 c1 b1 bb2;have d0:=c_2.c 0 rfl;have f0:=c_2.f 0;have d1:=c_2.c 1 rfl;have f1:=c_2.f 1;have d2:=c_2.c 2 rfl;have f2:=c_2.f 2
  go_wp2
  have bu:But (w.heap.size+1+1) w2 (((w2.setCell ⟨w.heap.size+1+1,0,none⟩ (.bool false)).setCell ⟨w.heap.size+1+1,1,none⟩ (.slice none 0 0)).setCell ⟨w.heap.size+1+1,2,none⟩ (yi 0)):=((ag w2 (w.heap.size+1+1) 0 (.bool false)).trans (ag _ (w.heap.size+1+1) 1 (.slice none 0 0))).trans (ag _ (w.heap.size+1+1) 2 (yi 0));have cX:au (((w2.setCell ⟨w.heap.size+1+1,0,none⟩ (.bool false)).setCell ⟨w.heap.size+1+1,1,none⟩ (.slice none 0 0)).setCell ⟨w.heap.size+1+1,2,none⟩ (yi 0)) (w.heap.size+1+1) 30 (ydL false (.slice none 0 0) 0):=((c_2.set 0 (.bool false)).set 1 (.slice none 0 0)).set 2 (yi 0);have bX:=bu.below b0_2 (show w.heap.size≤w.heap.size+1+1 by omega)
  obtain⟨s0,s1,s2⟩:=cX.cs3;refine bodyPost_ret (v:= .tuple #[ydV false (.slice none 0 0) 0,yi c]) (by simp[results,Tryd.results13,go_sem,s0,s1,s2]) rfl ?_;exact⟨_,rfl,aQ _ _ _ _,bX⟩
def ix (xs:List Nat)(p R D L G:Int):Int:=
 if chk xs=0 then(if bk R D L G=0 then(if eJ 20000 p=true then 3 else 0) else bk R D L G) else chk xs
theorem A8 {m n:Int}(h:eJ m n=false): -m≤n∧n≤m:=by
 unfold eJ at h;simp at h;omega
theorem kA {xs:List Nat}{p R D L G:Int}(h1:chk xs=0)(h2:bk R D L G=0)(h3:eJ 20000 p=false):ix xs p R D L G=0:=by
 unfold ix;rw[if_pos h1,if_pos h2,if_neg (by rw[h3];decide)]
theorem wS {R p:Int}(h: -20000≤p∧p≤20000): -80000≤(ai R:Int)*p∧(ai R:Int)*p≤80000:=by
 unfold ai
 split<;>simp<;>omega
theorem CW (R D L G:Int)(gr ng:Bool)(ao:Option Addr)(la ca:Nat)(p:Int)(w:World)(h: -1000000≤(ai R:Int)*p∧(ai R:Int)*p≤1000000):
  yC 28 #[ygV R D L G gr,.bool ng,.agg #[.slice ao la ca,yi p]] w (yR w (ydV ng (.slice ao la ca) ((ai R:Int)*p))):=by
 refine Zq R D L G gr ng ao la ca p (ai R) w (IntWalk.i64_in _ ⟨by omega,by omega⟩) (fun w1=> ?_)
 have:=tY R D L G gr w1
 rwa [jf] at this
theorem Xw {c:Int}(h: ¬c=0)(t:ak):cC c t=(⟨false,0,0⟩,c):=if_neg h
theorem kB (R D L G:Int)(gr s:Bool)(ao:Option Addr)(ca:Nat)(xs:List Nat)(p:Int)(x1 x2 x3:Bool)(w:World)(hr:Rd w .u32 (.slice ao xs.length ca) xs)(sa:Dg.Small 4294967296 xs)(hT:Tab w):
  yC 13 #[ypV s (.slice ao xs.length ca) p x1 x2 x3,ygV R D L G gr] w (gR w (cC (ix xs p R D L G) ⟨s,Dg.vl 4294967296 xs,(ai R:Int)*p⟩)):=by
 obtain⟨⟨⟨rs,rn,re⟩,c⟩,hrr⟩: ∃r,cC (ix xs p R D L G) ⟨s,Dg.vl 4294967296 xs,(ai R:Int)*p⟩=r:=⟨_,rfl⟩;have herr: ∀k,ix xs p R D L G=k→ ¬k=0→rs=false∧rn=0∧re=0∧c=k:=fun k h1 h2=>by
  rw[h1,Xw h2] at hrr;simp only[Prod.mk.injEq,ak.mk.injEq] at hrr;exact⟨hrr.1.1.symm,hrr.1.2.1.symm,hrr.1.2.2.symm,hrr.2.symm⟩
 rw[hrr];refine Zr R D L G gr s ao _ ca p x1 x2 x3 (ai R) (chk xs) (bk R D L G) c (eJ 20000 p) rs rn re w ?_ ?_ ?_ ?_ ?_ ?_ ?_ ?_
 ·intro h
  exact herr _ (if_neg h) h
 ·intro h h2
  exact herr _ ((if_pos h).trans (if_neg h2)) h2
 ·intro h h2 h3
  exact herr 3 ((if_pos h).trans ((if_pos h2).trans (if_pos h3))) (by decide)
 ·intro w1 b
  refine(jC _ xs w1 (hr.l b)).mono ?_;rintro z w' ⟨rfl,rfl⟩;exact⟨rfl,Below.refl _ _⟩
 ·intro w1
  exact vE R D L G gr w1
 ·intro w1
  exact nK p 20000 w1 (by omega) (by omega)
 ·intro h h2 h3 w1
  have:=wS (R:=R) (A8 h3);exact CW R D L G gr s ao _ ca p w1 ⟨by omega,by omega⟩
 ·intro h h2 h3 w1 b
  have hp:=wS (R:=R) (A8 h3);obtain⟨n1,l1⟩:=aF h;have x1:(Dg.dg 4294967296 (Dg.vl 4294967296 xs)).length≤1200:=by rw[←Dg.eq_dg 4294967296 (by omega) xs _ sa n1 rfl];exact l1
  rw[kA h h2 h3] at hrr;rw[←hrr];exact kL _ _ w1 (jw (hr.l b) sa n1) (by simp only;omega) ⟨by simp only;omega,by simp only;omega⟩ (hT.l b) (by have:=gZ (Dg.vl 4294967296 xs) 1200 x1;simp only;omega)
end Go.Proofs.YtibnjbojkjablaaDoor

/-
  Texts laid together: Dl7, Over, Sp1, Sp6, Sp8.
-/
import Derived.Test.YtiakgfmlpdfhdaaGreatDoorTa18
import Derived.Test.YtiakgfmlpdfhdaaGreatDoorTa20
import Derived.Test.YtiakgfmlpdfhdaaGreatDoorTa22
import Derived.Test.YtiakgfmlpdfhdaaGreatDoorTa29
import Derived.Test.YtiakgfmlpdfhdaaGreatDoorTa30
import Derived.Test.YtiakgfmlpdfhdaaGreatDoorTa31
import Derived.Test.YtiakgfmlpdfhdaaGreatDoorTa32
set_option maxRecDepth 100000
set_option maxHeartbeats 1600000
namespace Go.Proofs.YtiakgfmlpdfhdaaGreatDoor
open _root_.Go.Proofs.Tryz
open Go.RowKit
theorem lT (s:Bool)(ao:Option Addr)(ca:Nat)(xs:List Nat)(e:Int)(t:Bool)(bo:Option Addr)(cb:Nat)(ys:List Nat)(f:Int)(w:World)
  (hr:Rd w .u32 (.slice ao xs.length ca) xs) (hq:Rd w .u32 (.slice bo ys.length cb) ys) (sa:Dg.Small 4294967296 xs) (sb:Dg.Small 4294967296 ys):
  yC 42 #[ydV s (.slice ao xs.length ca) e,ydV t (.slice bo ys.length cb) f] w fun z w'=>
   z= .returned (.tuple #[yi (xw (dQ xs e ys f) ⟨s,Dg.vl 4294967296 xs,e⟩ ⟨t,Dg.vl 4294967296 ys,f⟩),yi (dQ xs e ys f)])∧yB w w':=by
 have bA:=aa (af w (.cells (ydA s (.slice ao xs.length ca) e) 25)) (af _ (.cells (ydA t (.slice bo ys.length cb) f) 25));have la:=(aA w (.bool s) (.slice ao xs.length ca) (yi e) 25).l (af _ (.cells (ydA t (.slice bo ys.length cb) f) 25));have lb:=aA (w.alloc (.cells (ydA s (.slice ao xs.length ca) e) 25)) (.bool t) (.slice bo ys.length cb) (yi f) 25;rw[World.size_alloc] at lb;obtain⟨W,hW⟩: ∃W,((w.alloc (.cells (ydA s (.slice ao xs.length ca) e) 25)).alloc (.cells (ydA t (.slice bo ys.length cb) f) 25))=W:=⟨_,rfl⟩;have sW:W.heap.size=w.heap.size+1+1:=by rw[←hW];simp[World.size_alloc]
 rw[hW] at bA la lb;have bX:=af W (.cells #[.bool s,.slice ao xs.length ca,yi e,.bool t,.slice bo ys.length cb,yi f] 25);have b01:=aa bA bX;have la:=la.l bX;have lb:=lb.l bX;have hw:=xy W.heap.size s ao ca xs e t bo cb ys f (W.alloc (.cells #[.bool s,.slice ao xs.length ca,yi e,.bool t,.slice bo ys.length cb,yi f] 25))
  (by rw[World.cell?_alloc_at _ _ _ _ rfl];rfl) (by rw[World.cell?_alloc_at _ _ _ _ rfl];rfl) (by rw[World.cell?_alloc_at _ _ _ _ rfl];rfl) (by rw[World.cell?_alloc_at _ _ _ _ rfl];rfl) (by rw[World.cell?_alloc_at _ _ _ _ rfl];rfl) (by rw[World.cell?_alloc_at _ _ _ _ rfl];rfl)
  (hr.l b01) (hq.l b01)
 rw[sW] at hw;rw[←hW] at hw la lb b01;have HC:Hid (dQ xs e ys f=0→yH w 45 #[ydV s (.slice ao xs.length ca) e,ydV t (.slice bo ys.length cb) f] (yi (dJ (aG ⟨s,Dg.vl 4294967296 xs,e⟩ (dV ⟨t,Dg.vl 4294967296 ys,f⟩))))):=fun h w1 b1=>by
  obtain⟨h1,h2⟩:=iN h;obtain⟨c1,e1,e2⟩:=bL h1;obtain⟨c2,f1,f2⟩:=bL h2;have z1:=aF c1;have z2:=aF c2;have x1:(Dg.dg 4294967296 (Dg.vl 4294967296 xs)).length≤1200:=by rw[←Dg.eq_dg 4294967296 (by omega) xs _ sa z1.1 rfl];exact z1.2
  have x2:(Dg.dg 4294967296 (Dg.vl 4294967296 ys)).length≤1200:=by rw[←Dg.eq_dg 4294967296 (by omega) ys _ sb z2.1 rfl];exact z2.2
  exact iE _ _ _ _ w1 (jw (hr.l b1) sa z1.1) (jw (hq.l b1) sb z2.1) (by simp only;omega) (by simp only;omega) (by simp only;omega) (by simp only;omega) (by simp only;omega) (by simp only;omega)
 unfold xw;obtain⟨c,hc⟩: ∃c,dQ xs e ys f=c:=⟨_,rfl⟩;rw[hc] at hw HC⊢;obtain⟨g,hg⟩: ∃g,dJ (aG ⟨s,Dg.vl 4294967296 xs,e⟩ (dV ⟨t,Dg.vl 4294967296 ys,f⟩))=g:=⟨_,rfl⟩;rw[hg] at HC⊢;clear hc hg bA bX sW hW hr hq sa sb
 by_cases h:c=0
 ·subst h
  rw[if_pos rfl];have HC2:Hid (yH w 45 #[ydV s (.slice ao xs.length ca) e,ydV t (.slice bo ys.length cb) f] (yi g)):=HC.out rfl;clear HC
  go_enter func42,ntmps42
  go_wp2_with fail
  refine hw.mono ?_;rintro z w1 ⟨rfl,b1⟩;have la:=la.l b1;have lb:=lb.l b1;have b01:=aa b01 b1;have bd:yB w1 w1.drew:=(Below.refl _ _).drew;have la:=la.l bd;have lb:=lb.l bd;have b02:=aa b01 bd;obtain⟨-,⟨ca0,ca1,ca2⟩,-⟩:=id la;obtain⟨-,⟨cb0,cb1,cb2⟩,-⟩:=id lb;clear hw b1 bd b01
  go_wp2_with fail
  go_region_held3 (fun wq=>(wq.cell? ⟨w.heap.size,0,none⟩=some (.bool s)∧wq.cell? ⟨w.heap.size,1,none⟩=some (.slice ao xs.length ca)∧wq.cell? ⟨w.heap.size,2,none⟩=some (yi e))∧wq.cell? ⟨w.heap.size+1,0,none⟩=some (.bool t)∧wq.cell? ⟨w.heap.size+1,1,none⟩=some (.slice bo ys.length cb)∧wq.cell? ⟨w.heap.size+1,2,none⟩=some (yi f)) (go_keep) (first
   | (go_at_call 22;refine(iK s ao xs.length ca e w1.drew).mono ?_;rintro z w3 ⟨rfl,b3⟩;have la3:=la.l b3;have lb3:=lb.l b3;have b03:=aa b02 b3;obtain⟨-,⟨p0,p1,p2⟩,-⟩:=id la3;obtain⟨-,⟨p3,p4,p5⟩,-⟩:=id lb3;clear b02)
   | (go_at_call 22;refine(iK t bo ys.length cb f w3).mono ?_;rintro z w4 ⟨rfl,b4⟩;have la4:=la3.l b4;have lb4:=lb3.l b4;have b04:=aa b03 b4;obtain⟨-,⟨q0,q1,q2⟩,-⟩:=id la4;obtain⟨-,⟨q3,q4,q5⟩,-⟩:=id lb4)
   | (go_at_call 45;refine(HC2.out w4 b04).mono ?_;rintro z w5 ⟨rfl,b5⟩;have la5:=la4.l b5;have lb5:=lb4.l b5;have b05:=aa b04 b5;obtain⟨-,⟨t0,t1,t2⟩,-⟩:=id la5;obtain⟨-,⟨t3,t4,t5⟩,-⟩:=id lb5))
  all_goals go_wp2
  go_ret2
  exact⟨rfl,b05⟩
 ·rw[if_neg h]
  clear HC
  go_enter func42,ntmps42
  go_wp2_with fail
  refine hw.mono ?_;rintro z w1 ⟨rfl,b1⟩;have b01:=aa b01 b1;clear hw b1
  go_wp2
  go_ret2
  exact⟨rfl,b01⟩
theorem A9 (va vb:Value)(xs ys:List Nat)(w:World)(ha:Rd w .u32 va xs)(hb:Rd w .u32 vb ys)(sa:Dg.Small 4294967296 xs)(sb:Dg.Small 4294967296 ys)(na:Dg.Norm xs)(nb:Dg.Norm ys)(hne:ys≠[])(hla:xs.length≤900000):
  yC 87 #[va,vb] w (Two w (Dg.vl 4294967296 xs/Dg.vl 4294967296 ys) (Dg.vl 4294967296 xs % Dg.vl 4294967296 ys)):=by
 have hcm:=jF va vb xs ys w ha hb sa sb na nb;have hY0:0<Dg.vl 4294967296 ys:=Nat.pos_of_ne_zero (Dg.vl_ne_zero 4294967296 (by omega) ys hne nb);have hln:0<ys.length:=List.length_pos_iff.2 hne
 by_cases hlt:Dg.vl 4294967296 xs<Dg.vl 4294967296 ys
 ·rw[gX (by omega)] at hcm
  rw[Nat.div_eq_of_lt hlt,Nat.mod_eq_of_lt hlt];have HX:Hid (xs=Dg.dg 4294967296 (Dg.vl 4294967296 xs)):=Dg.eq_dg 4294967296 (by omega) xs _ sa na rfl;have HA:Hid (Rd w .u32 va xs):=ha;obtain⟨ao,ca,rfl⟩:=ha.shape;obtain⟨bo,cb,rfl⟩:=hb.shape;clear ha hb sa sb na nb hne hlt hY0
  go_enter func87,ntmps87
  go_wp2_with fail
  refine hcm.mono ?_;rintro e w1 ⟨rfl,b1⟩;clear hcm
  go_wp2_with fail
  refine(Bz _ xs w1 (HA.out.l b1) (by omega)).mono ?_;rintro e w2 ⟨rfl,own2,b2⟩;have own2:=own2.lower b1.size;have b12:=aa b1 b2;clear b1 b2 HA
  go_wp2
  go_ret2
  exact⟨_,_,rfl,aQ _ _ _ _,HX.out▸own2,b12⟩
 ·have hd:=Xx (a:=(Dg.vl 4294967296 xs:Int)) (b:=(Dg.vl 4294967296 ys:Int)) (by omega)
  obtain⟨r,hr⟩: ∃r,dm (Dg.vl 4294967296 xs) (Dg.vl 4294967296 ys)=r:=⟨_,rfl⟩;rw[hr] at hd hcm;clear hr;have HA:Hid (Rd w .u32 va xs):=ha;have HB:Hid (Rd w .u32 vb ys):=hb;obtain⟨ao,ca,rfl⟩:=ha.shape;obtain⟨bo,cb,rfl⟩:=hb.shape
  by_cases h1:ys.length=1
  ·obtain⟨d,rfl⟩: ∃d,ys=[d]:=List.length_eq_one_iff.1 h1
   have hv:Dg.vl 4294967296 [d]=d:=by simp[Dg.vl]
   have hdl:d<4294967296:=(Dg.small_cons.1 sb).1;rw[hv] at hY0⊢;clear ha hb hlt hv h1 hln hne nb sb
   go_enter func87,ntmps87
   go_wp2_with fail
   refine hcm.mono ?_;rintro e w1 ⟨rfl,b1⟩;clear hcm
   go_wp2_with fail
   refine(Bz _ xs w1 (HA.out.l b1) (by omega)).mono ?_;rintro e w2 ⟨rfl,own2,b2⟩;have b12:=aa b1 b2;obtain⟨-,-,hcb⟩:=iQ (HB.out.l b12);obtain⟨bb,boff,rfl,hcell⟩:=hcb (by simp);have hc:=hcell 0 (by simp);simp only[List.getD_cons_zero,Nat.add_zero] at hc;clear hcell hcb
   go_wp2_with fail
   refine(uG _ _ _ _ xs d w2 own2 sa hY0 hdl (by omega)).mono ?_;rintro e w3 ⟨qs,rfl,own3,hql,hqs,hqv,gr3⟩;have b13:=b12.grown gr3 b12.size (fun k hk=>by cases hk;exact b1.size)
   have r3:=own3.rd;have own3:=own3.lower b1.size;obtain⟨rm,hrm⟩: ∃rm,Dg.vl 4294967296 xs % d=rm:=⟨_,rfl⟩;rw[hrm];have hrl:rm<4294967296:=by have:=Nat.mod_lt (Dg.vl 4294967296 xs) hY0;omega
   clear gr3 own2 b12 b2 hc
   go_wp2_with fail
   refine(jD _ _ _ _ _ r3).mono ?_;rintro e w4 ⟨m,rfl,hm,rfl⟩;have t3:=jW 4294967296 (by omega) own3 hqs hm;rw[hqv] at t3;have ownd:=zf w4 w.heap.size 49 rm b13.size;have b4:yB w4 (w4.alloc (.cells #[.int .u32 (rm:Int)] 49)):=(Below.refl _ _).alloc (Nat.le_refl _) _;have t4:=t3.l b4;have b14:=aa b13 b4;have rd4:=ownd.rd;clear own3 r3 hm t3 b4 b13 b1 hqv
   go_wp2_with fail
   refine(jD _ _ _ _ _ rd4).mono ?_;rintro e w5 ⟨m2,rfl,hm2,rfl⟩;have t5:=jW 4294967296 (by omega) ownd (Dg.small_cons.2 ⟨hrl,Dg.small_nil _ (by omega)⟩) hm2;rw[show Dg.vl 4294967296 [rm]=rm from by simp[Dg.vl]] at t5
   clear ownd rd4 hm2
   go_wp2
   go_ret2
   exact⟨_,_,rfl,t4,by rw[hrm];exact t5,b14⟩
  ·have hll:ys.length≤xs.length:=by
    rcases Nat.lt_or_ge xs.length ys.length with e|e
    ·exact absurd (Dg.vl_lt_of_len 4294967296 (by omega) xs ys sa nb e) hlt
    ·exact e
   have HLO:Hid (∀w1,yB w w1→yC 105 #[.slice ao xs.length ca,.slice bo ys.length cb] w1 (Two w1 (Dg.vl 4294967296 xs/Dg.vl 4294967296 ys) (Dg.vl 4294967296 xs % Dg.vl 4294967296 ys))):=fun w1 b1=>
    JS _ _ xs ys w1 (ha.l b1) (hb.l b1) sa sb nb (by omega) hll hla
   obtain⟨q,hq⟩: ∃q,Dg.vl 4294967296 xs/Dg.vl 4294967296 ys=q:=⟨_,rfl⟩;obtain⟨m,hm⟩: ∃m,Dg.vl 4294967296 xs % Dg.vl 4294967296 ys=m:=⟨_,rfl⟩;rw[hq,hm] at HLO⊢;have h2:((ys.length:Int)==1)=false:=by simp;omega
   clear ha hb hlt hne nb sb na sa hY0 hq hm HA HB
   go_enter func87,ntmps87
   go_wp2_with fail
   refine hcm.mono ?_;rintro e w1 ⟨rfl,b1⟩;clear hcm
   go_wp2_with fail
   refine(HLO.out w1 b1).mono ?_;rintro e w2 ⟨v1,v2,rfl,o1,o2,b2⟩;have o1:=o1.lower b1.size;have o2:=o2.lower b1.size;have b12:=aa b1 b2;clear b1 b2 HLO
   go_wp2
   go_ret2
   exact⟨_,_,rfl,o1,o2,b12⟩
theorem splus_any (v u:Value)(a b p q:ak)(w:World)(hv:SpanV w v a b)(hu:SpanV w u p q)(fa:FitsT a)(fb:FitsT b)(fp:FitsT p)(fq:FitsT q):yC 83 #[v,u] w (aeT w (aG a p) (aG b q)):=by
 obtain⟨s1,s2,rfl,r1,r2⟩:=hv;obtain⟨s3,s4,rfl,r3,r4⟩:=hu;obtain⟨ao,ac,rfl⟩:=r1.shape;obtain⟨bo,bc,rfl⟩:=r2.shape;obtain⟨po,pc,rfl⟩:=r3.shape;obtain⟨qo,qc,rfl⟩:=r4.shape;have la:=fa.len;have lb:=fb.len;have lp':=fp.len;have lq:=fq.len;obtain⟨-,a1,a2⟩:=fa;obtain⟨-,b1,b2⟩:=fb;obtain⟨-,p1,p2⟩:=fp;obtain⟨-,q1,q2⟩:=fq;exact spanPlus_W a b p q _ _ _ _ _ _ _ _ _ _ w
  (fun w1 hb=>(uj _ _ a p w1 ⟨_,rfl,r1.l hb⟩ ⟨_,rfl,r3.l hb⟩ (by omega) (by omega) (by omega) (by omega) (by omega) (by omega)).mono fun _ _ h=>h.vres)
  (fun w1 hb=>(uj _ _ b q w1 ⟨_,rfl,r2.l hb⟩ ⟨_,rfl,r4.l hb⟩ (by omega) (by omega) (by omega) (by omega) (by omega) (by omega)).mono fun _ _ h=>h.vres)
theorem overNS (m d:Nat)(v u:Value)(ys:List Nat)(w:World)(hv:Rd w .u32 v (Dg.dg 4294967296 m))(hu:Rd w .u32 u ys)(sb:Dg.Small 4294967296 ys)(nb:Dg.Norm ys)(hne:ys≠[])(e:Dg.vl 4294967296 ys=d)(hl:(Dg.dg 4294967296 m).length≤1900):
  yC 87 #[v,u] w (TwS w (m/d) (m % d)):=by
 have h:=A9 v u (Dg.dg 4294967296 m) ys w hv hu (Dg.small_dg _ _ (by omega)) sb (Dg.norm_dg _ _ (by omega)) nb hne (by omega);rw[Dg.vl_dg _ _ (by omega),e] at h;exact h.mono fun _ _ ⟨v1,v2,h1,h2,h3,h4⟩=>⟨v1,v2,h1,h2.rd,h3.rd,h4⟩
theorem inverse_any (n k tn:Nat)(w:World)(hn:2≤n∧n<65536)(hk:k≤60000)(ht:tn=0∨tn=1):
  yC 63 #[yi n,yi k,yi tn] w (aeT w (invLo (lp (n*n) tn (k+1) 0 (2^k/n) 0 0) k) (invHi (lp (n*n) tn (k+1) 0 (2^k/n) 0 0) k)):=by
 have HO: ∀(m d q:Nat) v w1,Rd w1 .u32 v (Dg.dg 4294967296 m)→au w1 q 49 [.int .u32 d]→0<d∧d<4294967296∧m≤2^k→yC 87 #[v,.slice (some ⟨q,0,none⟩) 1 1] w1 (TwS w1 (m/d) (m % d)):=fun m d q v w1 hv hq hd=>
  overNS m d v _ [d] w1 hv (rd_cell1 hq) (Dg.small_cons.2 ⟨hd.2.1,Dg.small_nil _ (by omega)⟩) (fun _=>by simp;omega) (by simp) (by simp[Dg.vl]) (len_pow hd.2.2 hk)
 have HN: ∀(m d:Nat) v u w1,Rd w1 .u32 v (Dg.dg 4294967296 m)→Rd w1 .u32 u (Dg.dg 4294967296 d)→0<d∧m≤2^k→yC 87 #[v,u] w1 (TwS w1 (m/d) (m % d)):=fun m d v u w1 hv hu hd=>
  overNS m d v u _ w1 hv hu (Dg.small_dg _ _ (by omega)) (Dg.norm_dg _ _ (by omega)) (dg_ne hd.1) (Dg.vl_dg _ _ (by omega)) (len_pow hd.2 hk)
 have HT: ∀q w1,au w1 q 49 [.int .u32 n]→yC 68 #[.slice (some ⟨q,0,none⟩) 1 1,.slice (some ⟨q,0,none⟩) 1 1] w1 (NmS w1 (n*n)):=fun q w1 hq=>by
  have sm:Dg.Small 4294967296 [n]:=Dg.small_cons.2 ⟨by omega,Dg.small_nil _ (by omega)⟩;have h:=qC _ _ [n] [n] w1 (rd_cell1 hq) (rd_cell1 hq) sm sm (by simp) (by simp);rw[show Dg.vl 4294967296 [n]=n by simp[Dg.vl]] at h
  exact h.mono fun _ _ ⟨v,h1,h2,h3⟩=>⟨v,h1,h2.rd,h3⟩
 have HS: ∀q w1,au w1 q 49 [.int .u32 1]→yC 77 #[.slice (some ⟨q,0,none⟩) 1 1,yi k] w1 (NmS w1 (2^k)):=fun q w1 hq=>by
  have h:=eO _ [1] k w1 (rd_cell1 (d:=1) hq) (Dg.small_cons.2 ⟨by omega,Dg.small_nil _ (by omega)⟩) (by simp) (by omega) (by omega);rw[show Dg.vl 4294967296 [1]=1 by simp[Dg.vl],show shN 1 k=2^k by simp[shN];intro h;omega] at h
  exact h.mono fun _ _ ⟨v,h1,h2,h3⟩=>⟨v,h1,h2.rd,h3⟩
 have HP: ∀(a b:Nat) v u w1,Rd w1 .u32 v (Dg.dg 4294967296 a)→Rd w1 .u32 u (Dg.dg 4294967296 b)→a≤(k+2)*2^k∧b≤2^k→yC 70 #[v,u] w1 (NmS w1 (a+b)):=fun a b v u w1 hv hu h0=>by
  have l1:=len_big h0.1 hk;have l2:=len_pow h0.2 hk;have h:=rj v u _ _ w1 hv hu (Dg.small_dg _ _ (by omega)) (Dg.small_dg _ _ (by omega)) (by omega) (by omega);rw[Dg.vl_dg _ _ (by omega),Dg.vl_dg _ _ (by omega)] at h;exact h.mono fun _ _ ⟨v,h1,h2,h3⟩=>⟨v,h1,h2.rd,h3⟩
 have HM: ∀(a b:Nat) v u w1,Rd w1 .u32 v (Dg.dg 4294967296 a)→Rd w1 .u32 u (Dg.dg 4294967296 b)→a≤(k+2)*2^k∧b≤a→yC 72 #[v,u] w1 (NmS w1 (a-b)):=fun a b v u w1 hv hu h0=>by
  have l1:=len_big h0.1 hk;have h:=zL v u _ _ w1 hv hu (Dg.small_dg _ _ (by omega)) (Dg.small_dg _ _ (by omega)) (by omega) (Nat.le_of_not_lt fun hl=>absurd (Dg.vl_lt_of_len _ (by omega) _ _ (Dg.small_dg _ _ (by omega)) (Dg.norm_dg _ _ (by omega)) hl) (by rw[Dg.vl_dg _ _ (by omega),Dg.vl_dg _ _ (by omega)];omega)) (by rw[Dg.vl_dg _ _ (by omega),Dg.vl_dg _ _ (by omega)];exact h0.2)
  rw[Dg.vl_dg _ _ (by omega),Dg.vl_dg _ _ (by omega)] at h;exact h.mono fun _ _ ⟨v,h1,h2,h3⟩=>⟨v,h1,h2.rd,h3⟩
 have HL: ∀(m:Nat) xo xc w1,yC 66 (ydA false (yT xo m xc) 0) w1 (yR w1 (ydV false (yT xo m xc) 0)):=fun m xo xc w1=>l9 _ _ _ _ _ w1
 have HW: ∀(m:Nat) w1,m≤1000000→yC 88 #[yi m] w1 (Lx w1 ⟨false,m,0⟩):=fun m w1 h=>whole_any m w1 (by omega)
 have hsm: ∀d:Nat,d≤1000000→(Dg.dg 4294967296 d).length≤1:=fun d hd=>jq (k:=32) (by omega) (by omega)
 have HD: ∀(m d:Nat) xo xc yo yc w1,Rd w1 .u32 (yT xo m xc) (Dg.dg 4294967296 m)→Rd w1 .u32 (yT yo d yc) (Dg.dg 4294967296 d)→m≤(k+2)*2^k∧d≤1000000→yC 78 #[ydV false (yT xo m xc) 0,ydV false (yT yo d yc) 0] w1 (Lx w1 (aG ⟨false,m,0⟩ (dV ⟨false,d,0⟩))):=fun m d xo xc yo yc w1 hx hy h0=>by
  have l1:=len_big h0.1 hk;have l2:=hsm d h0.2;exact(FT _ _ ⟨false,m,0⟩ ⟨false,d,0⟩ w1 ⟨_,rfl,hx⟩ ⟨_,rfl,hy⟩ (by show(Dg.dg 4294967296 m).length≤_;omega) (by show(Dg.dg 4294967296 d).length≤_;omega) (by simp) (by simp) (by simp) (by simp)).mono fun _ _ h=>h.vres
 have HE: ∀(m d:Nat) xo xc yo yc w1,Rd w1 .u32 (yT xo m xc) (Dg.dg 4294967296 m)→Rd w1 .u32 (yT yo d yc) (Dg.dg 4294967296 d)→m≤(k+2)*2^k∧d≤1000000→yC 41 #[ydV false (yT xo m xc) 0,ydV false (yT yo d yc) 0] w1 (Lx w1 (aG ⟨false,m,0⟩ ⟨false,d,0⟩)):=fun m d xo xc yo yc w1 hx hy h0=>by
  have l1:=len_big h0.1 hk;have l2:=hsm d h0.2;exact(uj _ _ ⟨false,m,0⟩ ⟨false,d,0⟩ w1 ⟨_,rfl,hx⟩ ⟨_,rfl,hy⟩ (by show(Dg.dg 4294967296 m).length≤_;omega) (by show(Dg.dg 4294967296 d).length≤_;omega) (by simp) (by simp) (by simp) (by simp)).mono fun _ _ h=>h.vres
 have HC: ∀(x y:ak) xo xc yo yc w1,-1000000≤x.e∧x.e≤1000000∧ -1000000≤y.e∧y.e≤1000000→yC 60 #[.agg #[.bool x.s,yT xo x.n xc,yi x.e,.bool y.s,yT yo y.n yc,yi y.e],yi (-(k:Int))] w1 (yR w1 (.agg #[.bool x.s,yT xo x.n xc,yi (x.e-(k:Int)),.bool y.s,yT yo y.n yc,yi (y.e-(k:Int))])):=fun x y xo xc yo yc w1 h0=>
  spanScaled_W x y _ _ _ _ (-(k:Int)) (x.e-(k:Int)) (y.e-(k:Int)) w1 (fun w2=>dscaled_W _ _ _ _ _ _ _ w2 (by rw[show x.e+ -(k:Int)=x.e-(k:Int) by omega];exact IntWalk.i64_in _ ⟨by omega,by omega⟩)) (fun w2=>dscaled_W _ _ _ _ _ _ _ w2 (by rw[show y.e+ -(k:Int)=y.e-(k:Int) by omega];exact IntWalk.i64_in _ ⟨by omega,by omega⟩))
 rcases ht with rfl|rfl
 ·exact inverse_W0 n k _ _ w hn hk rfl rfl HO HN HT HS HP HM HL HW HD HE HC
 ·exact inverse_W1 n k _ _ w hn hk rfl rfl HO HN HT HS HP HM HL HW HD HE HC
theorem scaled_ret (a b:ak)(ao bo:Option Addr)(ac bc:Nat)(n:Int)(w:World)(ha: -1000000≤a.e∧a.e≤1000000)(hb: -1000000≤b.e∧b.e≤1000000)(hn: -1000000≤n∧n≤1000000):
  yC 60 #[.agg #[.bool a.s,yT ao a.n ac,yi a.e,.bool b.s,yT bo b.n bc,yi b.e],yi n] w (yR w (.agg #[.bool a.s,yT ao a.n ac,yi (a.e+n),.bool b.s,yT bo b.n bc,yi (b.e+n)])):=
 spanScaled_W a b _ _ _ _ n (a.e+n) (b.e+n) w (fun w1=>dscaled_W _ _ _ _ _ _ _ w1 (IntWalk.i64_in _ ⟨by omega,by omega⟩)) (fun w1=>dscaled_W _ _ _ _ _ _ _ w1 (IntWalk.i64_in _ ⟨by omega,by omega⟩))
theorem stimes_any (v u:Value)(a b p q:ak)(w:World)(hv:SpanV w v a b)(hu:SpanV w u p q)(fa:FitsT a)(fb:FitsT b)(fp:FitsT p)(fq:FitsT q)(hx: ∀j,FitsT (fourT a b p q j)):
  yC 81 #[v,u] w (aeT w (loT (fourT a b p q) 3) (hiT (fourT a b p q) 3)):=by
 obtain⟨s1,s2,rfl,r1,r2⟩:=hv;obtain⟨s3,s4,rfl,r3,r4⟩:=hu;obtain⟨ao,ac,rfl⟩:=r1.shape;obtain⟨bo,bc,rfl⟩:=r2.shape;obtain⟨po,pc,rfl⟩:=r3.shape;obtain⟨qo,qc,rfl⟩:=r4.shape;have la:=fa.len;have lb:=fb.len;have lp':=fp.len;have lq:=fq.len;obtain⟨-,a1,a2⟩:=fa;obtain⟨-,b1,b2⟩:=fb;obtain⟨-,p1,p2⟩:=fp;obtain⟨-,q1,q2⟩:=fq;refine spanTimes_W a b p q _ _ _ _ _ _ _ _ (aK a p) (aK a q) (aK b p) (aK b q) _ _ w
  (fun w1 hb=>(Ac _ _ a p w1 ⟨_,rfl,r1.l hb⟩ ⟨_,rfl,r3.l hb⟩ (by omega) (by omega) (by omega) (by omega) (by omega) (by omega)).mono fun _ _ h=>h.vres)
  (fun w1 hb=>(Ac _ _ a q w1 ⟨_,rfl,r1.l hb⟩ ⟨_,rfl,r4.l hb⟩ (by omega) (by omega) (by omega) (by omega) (by omega) (by omega)).mono fun _ _ h=>h.vres)
  (fun w1 hb=>(Ac _ _ b p w1 ⟨_,rfl,r2.l hb⟩ ⟨_,rfl,r3.l hb⟩ (by omega) (by omega) (by omega) (by omega) (by omega) (by omega)).mono fun _ _ h=>h.vres)
  (fun w1 hb=>(Ac _ _ b q w1 ⟨_,rfl,r2.l hb⟩ ⟨_,rfl,r4.l hb⟩ (by omega) (by omega) (by omega) (by omega) (by omega) (by omega)).mono fun _ _ h=>h.vres) ?_
 intro pb x0o x1o x2o x3o x0c x1c x2c x3c w1 hb hl k0 k1 k2 k3;have hr: ∀j,j<4→Rd w1 .u32 (.slice (four' x0o x1o x2o x3o j) (Dg.dg 4294967296 (fourT a b p q j).n).length (four' x0c x1c x2c x3c j)) (Dg.dg 4294967296 (fourT a b p q j).n):=by
  intro j hj
  match j,hj with
  |0,_=>exact k0
  |1,_=>exact k1
  |2,_=>exact k2
  |3,_=>exact k3
 have h:=FN pb 4 (fourT a b p q) (four' x0o x1o x2o x3o) (four' x0c x1c x2c x3c) w1 (by omega) (by omega) hl.lt
  (fun j hj=>by match j,hj with
   |0,_=>exact hl.c 0 rfl
   |1,_=>exact hl.c 3 rfl
   |2,_=>exact hl.c 6 rfl
   |3,_=>exact hl.c 9 rfl)
  (fun j hj=>by match j,hj with
   |0,_=>exact hl.c 1 rfl
   |1,_=>exact hl.c 4 rfl
   |2,_=>exact hl.c 7 rfl
   |3,_=>exact hl.c 10 rfl)
  (fun j hj=>by match j,hj with
   |0,_=>exact hl.c 2 rfl
   |1,_=>exact hl.c 5 rfl
   |2,_=>exact hl.c 8 rfl
   |3,_=>exact hl.c 11 rfl)
  (fun j k w2 hj hk q2=>by
   have l1:=(hx j).len;have l2:=(hx k).len;obtain⟨-,e1,e2⟩:=hx j;obtain⟨-,e3,e4⟩:=hx k;exact iE _ _ (fourT a b p q j) (fourT a b p q k) w2 ⟨_,rfl,(hr j hj).l q2⟩ ⟨_,rfl,(hr k hk).l q2⟩ (by omega) (by omega) (by omega) (by omega) (by omega) (by omega))
 refine h.mono ?_;rintro z w2 ⟨rfl,q2⟩;exact⟨_,_,rfl,(hr (loI (fourT a b p q) 3) (by have:=tB (fourT a b p q) 3;omega)).l q2,(hr (hiI (fourT a b p q) 3) (by have:=wN (fourT a b p q) 3;omega)).l q2,q2⟩
end Go.Proofs.YtiakgfmlpdfhdaaGreatDoor

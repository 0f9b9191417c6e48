/-
  Texts laid together: Bl2, Sr2, Br4.
-/
import Derived.Test.YtiakgfmlpdfhdaaGreatDoorTa32
import Derived.Test.YtiakgfmlpdfhdaaGreatDoorTa34
import Derived.Test.YtiakgfmlpdfhdaaGreatDoorTa35
import Derived.Test.YtiakgfmlpdfhdaaGreatDoorTa37
set_option maxRecDepth 100000
set_option maxHeartbeats 1600000
namespace Go.Proofs.YtiakgfmlpdfhdaaGreatDoor
open _root_.Go.Proofs.Tryz
open Go.RowKit
theorem kV (s:Bool)(ao:Option Addr)(ca:Nat)(xs:List Nat)(e:Int)(t:Bool)(bo:Option Addr)(cb:Nat)(ys:List Nat)(f:Int)(w:World)
  (hr:Rd w .u32 (.slice ao xs.length ca) xs) (hq:Rd w .u32 (.slice bo ys.length cb) ys) (sa:Dg.Small 4294967296 xs) (sb:Dg.Small 4294967296 ys):
  Calls Tryz.prog 6 #[.agg #[.bool s,.slice ao xs.length ca,.int .i64 e,.bool t,.slice bo ys.length cb,.int .i64 f]] w fun z w'=>z= .returned (.int .i64 (cu s xs e t ys f))∧Below w.heap.size w w':=by
 have bA:=af w (.cells #[.bool s,.slice ao xs.length ca,.int .i64 e,.bool t,.slice bo ys.length cb,.int .i64 f] 27);have l0:=aJ w (.bool s) (.slice ao xs.length ca) (.int .i64 e) (.bool t) (.slice bo ys.length cb) (.int .i64 f) 27;have hc:=ua s ao ca xs e t bo cb ys f _ (hr.l bA) (hq.l bA);obtain⟨A,hA⟩: ∃A:ak,(⟨s,Dg.vl 4294967296 xs,e⟩:ak)=A:=⟨_,rfl⟩;obtain⟨B,hB⟩: ∃B:ak,(⟨t,Dg.vl 4294967296 ys,f⟩:ak)=B:=⟨_,rfl⟩;have HO:Hid (dQ xs e ys f=0→(∀w1,Below w.heap.size w w1→Calls Tryz.prog 27 #[.agg #[.bool s,.slice ao xs.length ca,.int .i64 e]] w1 (dr w1 (bare A)))∧(∀w1,Below w.heap.size w w1→Calls Tryz.prog 27 #[.agg #[.bool t,.slice bo ys.length cb,.int .i64 f]] w1 (dr w1 (bare B)))∧
   (∀v u w1,Rv w1 v (bare A)→Rv w1 u (bare B)→Calls Tryz.prog 11 #[v,u] w1 fun z w'=>z= .returned (.int .i64 (dJ (aG A (dV B))))∧Below w1.heap.size w1 w')):=fun h=>by
  obtain⟨h1,h2⟩:=iN h;obtain⟨c1,e1,e2⟩:=bL h1;obtain⟨c2,f1,f2⟩:=bL h2;have z1:=aF c1;have z2:=aF c2;have x1:(Dg.dg 4294967296 (Dg.vl 4294967296 xs)).length≤1200:=by rw[←Dg.eq_dg 4294967296 (by omega) xs _ sa z1.1 rfl];exact z1.2
  have x2:(Dg.dg 4294967296 (Dg.vl 4294967296 ys)).length≤1200:=by rw[←Dg.eq_dg 4294967296 (by omega) ys _ sb z2.1 rfl];exact z2.2
  obtain⟨p1,p2,p3⟩:=eT (t:=A) (by rw[←hA];exact x1) (by rw[←hA];exact e1) (by rw[←hA];exact e2);obtain⟨q1,q2,q3⟩:=eT (t:=B) (by rw[←hB];exact x2) (by rw[←hB];exact f1) (by rw[←hB];exact f2);refine⟨fun w1 b1=> ?_,fun w1 b1=> ?_,fun v u w1 hv hu=> ?_⟩
  ·rw[←hA];exact bQ s ao ca xs e w1 (hr.l b1) sa (by omega) (by omega) (by omega)
  ·rw[←hB];exact bQ t bo cb ys f w1 (hq.l b1) sb (by omega) (by omega) (by omega)
  ·have:=gQ v u (bare A) (bare B) w1 hv hu (by omega) (by omega) (by omega) (by omega) (by omega) (by omega)
   rwa [lP] at this
 unfold cu;rw[hA,hB];obtain⟨c,hcc⟩: ∃c,dQ xs e ys f=c:=⟨_,rfl⟩;obtain⟨g,hg⟩: ∃g,dJ (aG A (dV B))=g:=⟨_,rfl⟩;rw[hcc] at hc HO⊢;rw[hg] at HO⊢;clear hcc hg hr hq sa sb hA hB
 by_cases h:c=0
 ·subst h
  simp only[if_true];obtain⟨hoa,hob,hrf⟩:=HO.out rfl;obtain⟨⟨as',an',ae'⟩,hat⟩: ∃bt,bare A=bt:=⟨_,rfl⟩;obtain⟨⟨ds',dn',de'⟩,hdt⟩: ∃bt,bare B=bt:=⟨_,rfl⟩;rw[hat] at hoa hrf;rw[hdt] at hob hrf;have HOA:Hid _:=hoa;have HOB:Hid _:=hob;have HRF:Hid _:=hrf;clear HO hoa hob hrf hat hdt
  go_enter func6,ntmps6
  go_wp2_with fail
  refine hc.mono ?_;rintro z w2 ⟨rfl,b2⟩;have bd:Below w2.heap.size w2 w2.drew:=(Below.refl _ _).drew;have l3:=(l0.l b2).l bd;have b03:=aa (aa bA b2) bd;obtain⟨-,⟨c0,c1,c2,c3,c4,c5⟩,-⟩:=id l3;clear hc l0 bA b2 bd
  go_wp2_with fail
  go_region_held3 (fun wq=>(wq.cell? ⟨w.heap.size,0,none⟩=some (.bool s)∧wq.cell? ⟨w.heap.size,1,none⟩=some (.slice ao xs.length ca)∧wq.cell? ⟨w.heap.size,2,none⟩=some (.int .i64 e))∧wq.cell? ⟨w.heap.size,3,none⟩=some (.bool t)∧wq.cell? ⟨w.heap.size,4,none⟩=some (.slice bo ys.length cb)∧wq.cell? ⟨w.heap.size,5,none⟩=some (.int .i64 f)) (go_keep) (first
   | (go_at_call 27;refine(HOA.out _ b03).mono ?_;rintro z w4 ⟨v1,rfl,q1,b4⟩;have l4:=l3.l b4;have b04:=aa b03 b4;obtain⟨-,⟨p0,p1,p2,p3,p4,p5⟩,-⟩:=id l4;clear b03)
   | (go_at_call 27;refine(HOB.out _ b04).mono ?_;rintro z w5 ⟨v2,rfl,q2,b5⟩;have l5:=l4.l b5;have b05:=aa b04 b5;have q15:=q1.l b5;obtain⟨-,⟨t0,t1,t2,t3,t4,t5⟩,-⟩:=id l5)
   | (go_at_call 11;refine(HRF.out _ _ w5 ⟨_,rfl,q15⟩ ⟨_,rfl,q2⟩).mono ?_;rintro z w6 ⟨rfl,b6⟩;have l6:=l5.l b6;have b06:=aa b05 b6;obtain⟨-,⟨u0,u1,u2,u3,u4,u5⟩,-⟩:=id l6))
  clear HOA HOB HRF c0 c1 c2 c3 c4 c5 p0 p1 p2 p3 p4 p5 t0 t1 t2 t3 t4 t5 u0 u1 u2 u3 u4 u5
  by_cases h2:0<g
  ·have H2:Hid (0<g):=h2
   go_wp2
   go_ret
   exact⟨by first|rfl|rw[if_pos H2.out],b06⟩
  ·have H2:Hid (¬0<g):=h2
   go_wp2
   go_ret
   exact⟨by first|rfl|rw[if_neg H2.out],b06⟩
 ·rw[if_neg h]
  have h3:(c==0)=false:=by simp[h]
  clear HO
  go_enter func6,ntmps6
  go_wp2_with fail
  refine hc.mono ?_;rintro z w2 ⟨rfl,b2⟩;have b02:=aa bA b2;clear hc
  go_wp2
  go_quiet (fail)
  go_wp2
  go_ret
  exact⟨rfl,aL b02 _⟩
theorem ofDyad_good {t:ak}(ht: ∃y,t=bare y)(hn:t.n<2^1000)(h1: -1120≤t.e)(h2:t.e≤9000)(xo:Option Addr)(xc:Nat)(w:World)(hr:Rd w .u32 (yT xo t.n xc) (Dg.dg 4294967296 t.n)):
  yC 27 #[yDV t xo xc] w (dr w t):=by
 have hl:=dyad_lenS hn;have h:=bQ t.s xo xc _ t.e w hr (Dg.small_dg _ _ (by omega)) (by omega) (by omega) (by omega);rw[Dg.vl_dg _ _ (by omega)] at h;obtain⟨y,hy⟩:=ht;rw[show(⟨t.s,t.n,t.e⟩:ak)=t from rfl,hy,iH,←hy] at h
 exact h
theorem spanSameP_any (a b:ak)(ao bo:Option Addr)(ac bc:Nat)(m:Int)(w:World)(ha:EndR a)(hb:EndR b)(hm:1≤m∧m≤4096)(hT:Tab w)
  (ra:Rd w .u32 (yT ao a.n ac) (Dg.dg 4294967296 a.n)) (rb:Rd w .u32 (yT bo b.n bc) (Dg.dg 4294967296 b.n)):
  yC 25 #[.agg #[.bool a.s,yT ao a.n ac,yi a.e,.bool b.s,yT bo b.n bc,yi b.e],yi m] w (yR w (.bool (sameP a b m))):=by
 obtain⟨la,a1,a2⟩:=ha;obtain⟨lb,b1,b2⟩:=hb;have HG:yH w 43 #[.agg #[.bool a.s,yT ao a.n ac,yi a.e,.bool b.s,yT bo b.n bc,yi b.e]] (.bool (decide (0<dJ a*dJ b))):=fun w1 h1=>
  signs_W a b ao bo ac bc (dJ a) (dJ b) _ _ w1 (IntWalk.i64_in _ (by rcases sign_abs a with h|h|h<;>rcases sign_abs b with g|g|g<;>rw[h,g]<;>exact⟨by decide,by decide⟩)) rfl
   (fun w2 h2=>qB _ a w2 ⟨_,rfl,(ra.l h1).l h2⟩) (fun w2 h2=>qB _ b w2 ⟨_,rfl,(rb.l h1).l h2⟩)
 unfold sameP
 cases hg:decide (0<dJ a*dJ b)
 ·rw[hg] at HG
  rw[Bool.false_and];exact same_no a b ao bo ac bc m w HG
 ·rw[hg] at HG
  rw[Bool.true_and];have ca:=tK (b:=m) (up:=a.s) la (by omega);have cb:=tK (b:=m) (up:=b.s) lb (by omega);have ea:=WQ (up:=a.s) la hm.1;have eb:=WQ (up:=b.s) lb hm.1;exact same_yes _ _ a b ao bo ac bc m _ _ w rfl HG
   (fun w1 h1=>Ij _ a m a.s w1 ⟨_,rfl,ra.l h1⟩ (by omega) (by omega) (by omega) hm.1 hm.2 (hT.l h1))
   (fun w1 h1=>Ij _ b m b.s w1 ⟨_,rfl,rb.l h1⟩ (by omega) (by omega) (by omega) hm.1 hm.2 (hT.l h1))
   (fun po pc qo qc w1 _ rp rq=>iE _ _ (aY a m a.s) (aY b m b.s) w1 ⟨_,rfl,rp⟩ ⟨_,rfl,rq⟩ (by omega) (by omega) (by omega) (by omega) (by omega) (by omega))
end Go.Proofs.YtiakgfmlpdfhdaaGreatDoor

/-
  Texts laid together: Over, Into2, Bl2, Bv1.
-/
import Derived.Test.YtiakgfmlpdfhdaaDoorSv30
import Derived.Test.YtiakgfmlpdfhdaaDoorSv31
import Derived.Test.YtiakgfmlpdfhdaaDoorSv32
import Derived.Test.YtiakgfmlpdfhdaaDoorSv33
set_option maxRecDepth 100000
set_option maxHeartbeats 1600000
namespace Go.Proofs.YtiakgfmlpdfhdaaDoor
open Go.RowKit
theorem A9 (va vb:Value)(xs ys:List Nat)(w:World)(ha:Rd w .u32 va xs)(hb:Rd w .u32 vb ys)(sa:Dg.Small 4294967296 xs)(sb:Dg.Small 4294967296 ys)(na:Dg.Norm xs)(nb:Dg.Norm ys)(hne:ys≠[])(hla:xs.length≤900000):
  yC 74 #[va,vb] w (Two w (Dg.vl 4294967296 xs/Dg.vl 4294967296 ys) (Dg.vl 4294967296 xs % Dg.vl 4294967296 ys)):=by
 have hcm:=jF va vb xs ys w ha hb sa sb na nb;have hY0:0<Dg.vl 4294967296 ys:=Nat.pos_of_ne_zero (Dg.vl_ne_zero 4294967296 (by omega) ys hne nb);have hln:0<ys.length:=List.length_pos_iff.2 hne
 by_cases hlt:Dg.vl 4294967296 xs<Dg.vl 4294967296 ys
 ·rw[gX (by omega)] at hcm
  rw[Nat.div_eq_of_lt hlt,Nat.mod_eq_of_lt hlt];have HX:Hid (xs=Dg.dg 4294967296 (Dg.vl 4294967296 xs)):=Dg.eq_dg 4294967296 (by omega) xs _ sa na rfl;have HA:Hid (Rd w .u32 va xs):=ha;obtain⟨ao,ca,rfl⟩:=ha.shape;obtain⟨bo,cb,rfl⟩:=hb.shape;clear ha hb sa sb na nb hne hlt hY0
  go_enter Tryd.func74,Tryd.ntmps74
  go_wp2_with fail
  refine hcm.mono ?_;rintro e w1 ⟨rfl,b1⟩;clear hcm
  go_wp2_with fail
  refine(Bz _ xs w1 (HA.out.l b1) (by omega)).mono ?_;rintro e w2 ⟨rfl,own2,b2⟩;have own2:=own2.lower b1.size;have b12:=aa b1 b2;clear b1 b2 HA
  go_wp2
  go_ret2
  exact⟨_,_,rfl,aQ _ _ _ _,HX.out▸own2,b12⟩
 ·have hd:=Xx (a:=(Dg.vl 4294967296 xs:Int)) (b:=(Dg.vl 4294967296 ys:Int)) (by omega)
  obtain⟨r,hr⟩: ∃r,dm (Dg.vl 4294967296 xs) (Dg.vl 4294967296 ys)=r:=⟨_,rfl⟩;rw[hr] at hd hcm;clear hr;have HA:Hid (Rd w .u32 va xs):=ha;have HB:Hid (Rd w .u32 vb ys):=hb;obtain⟨ao,ca,rfl⟩:=ha.shape;obtain⟨bo,cb,rfl⟩:=hb.shape
  by_cases h1:ys.length=1
  ·obtain⟨d,rfl⟩: ∃d,ys=[d]:=List.length_eq_one_iff.1 h1
   have hv:Dg.vl 4294967296 [d]=d:=by simp[Dg.vl]
   have hdl:d<4294967296:=(Dg.small_cons.1 sb).1;rw[hv] at hY0⊢;clear ha hb hlt hv h1 hln hne nb sb
   go_enter Tryd.func74,Tryd.ntmps74
   go_wp2_with fail
   refine hcm.mono ?_;rintro e w1 ⟨rfl,b1⟩;clear hcm
   go_wp2_with fail
   refine(Bz _ xs w1 (HA.out.l b1) (by omega)).mono ?_;rintro e w2 ⟨rfl,own2,b2⟩;have b12:=aa b1 b2;obtain⟨-,-,hcb⟩:=iQ (HB.out.l b12);obtain⟨bb,boff,rfl,hcell⟩:=hcb (by simp);have hc:=hcell 0 (by simp);simp only[List.getD_cons_zero,Nat.add_zero] at hc;clear hcell hcb
   go_wp2_with fail
   refine(uG _ _ _ _ xs d w2 own2 sa hY0 hdl (by omega)).mono ?_;rintro e w3 ⟨qs,rfl,own3,hql,hqs,hqv,gr3⟩;have b13:=b12.grown gr3 b12.size (fun k hk=>by cases hk;exact b1.size)
   have r3:=own3.rd;have own3:=own3.lower b1.size;obtain⟨rm,hrm⟩: ∃rm,Dg.vl 4294967296 xs % d=rm:=⟨_,rfl⟩;rw[hrm];have hrl:rm<4294967296:=by have:=Nat.mod_lt (Dg.vl 4294967296 xs) hY0;omega
   clear gr3 own2 b12 b2 hc
   go_wp2_with fail
   refine(jD _ _ _ _ _ r3).mono ?_;rintro e w4 ⟨m,rfl,hm,rfl⟩;have t3:=jW 4294967296 (by omega) own3 hqs hm;rw[hqv] at t3;have ownd:=zf w4 w.heap.size 87 rm b13.size;have b4:yB w4 (w4.alloc (.cells #[.int .u32 (rm:Int)] 87)):=(Below.refl _ _).alloc (Nat.le_refl _) _;have t4:=t3.l b4;have b14:=aa b13 b4;have rd4:=ownd.rd;clear own3 r3 hm t3 b4 b13 b1 hqv
   go_wp2_with fail
   refine(jD _ _ _ _ _ rd4).mono ?_;rintro e w5 ⟨m2,rfl,hm2,rfl⟩;have t5:=jW 4294967296 (by omega) ownd (Dg.small_cons.2 ⟨hrl,Dg.small_nil _ (by omega)⟩) hm2;rw[show Dg.vl 4294967296 [rm]=rm from by simp[Dg.vl]] at t5
   clear ownd rd4 hm2
   go_wp2
   go_ret2
   exact⟨_,_,rfl,t4,by rw[hrm];exact t5,b14⟩
  ·have hll:ys.length≤xs.length:=by
    rcases Nat.lt_or_ge xs.length ys.length with e|e
    ·exact absurd (Dg.vl_lt_of_len 4294967296 (by omega) xs ys sa nb e) hlt
    ·exact e
   have HLO:Hid (∀w1,yB w w1→yC 95 #[.slice ao xs.length ca,.slice bo ys.length cb] w1 (Two w1 (Dg.vl 4294967296 xs/Dg.vl 4294967296 ys) (Dg.vl 4294967296 xs % Dg.vl 4294967296 ys))):=fun w1 b1=>
    JS _ _ xs ys w1 (ha.l b1) (hb.l b1) sa sb nb (by omega) hll hla
   obtain⟨q,hq⟩: ∃q,Dg.vl 4294967296 xs/Dg.vl 4294967296 ys=q:=⟨_,rfl⟩;obtain⟨m,hm⟩: ∃m,Dg.vl 4294967296 xs % Dg.vl 4294967296 ys=m:=⟨_,rfl⟩;rw[hq,hm] at HLO⊢;have h2:((ys.length:Int)==1)=false:=by simp;omega
   clear ha hb hlt hne nb sb na sa hY0 hq hm HA HB
   go_enter Tryd.func74,Tryd.ntmps74
   go_wp2_with fail
   refine hcm.mono ?_;rintro e w1 ⟨rfl,b1⟩;clear hcm
   go_wp2_with fail
   refine(HLO.out w1 b1).mono ?_;rintro e w2 ⟨v1,v2,rfl,o1,o2,b2⟩;have o1:=o1.lower b1.size;have o2:=o2.lower b1.size;have b12:=aa b1 b2;clear b1 b2 HLO
   go_wp2
   go_ret2
   exact⟨_,_,rfl,o1,o2,b12⟩
theorem qM (va vb:Value)(a b:Nat)(w:World)(ha:Rd w .i64 va (Dg.dg 65536 a))(hb:Rd w .i64 vb (Dg.dg 65536 b))(hla:(Dg.dg 65536 a).length≤900000)(hlb:(Dg.dg 65536 b).length≤900000)(hb0:0<b):
  yC 36 #[va,vb] w (JI w (a/b) (a % b)):=by
 have hne: ¬(Dg.dg 65536 b).length=0:=by rw[List.length_eq_zero_iff,Dg.dg_nil_iff _ _ (by omega)];omega
 by_cases h1:(Dg.dg 65536 b).length=1
 ·obtain⟨d,hd⟩: ∃d,Dg.dg 65536 b=[d]:=List.length_eq_one_iff.1 h1
  have hs:=Dg.small_dg 65536 b (by omega);have hv:=Dg.vl_dg 65536 b (by omega);rw[hd] at hs hv;have hdb:d=b:=by simpa[Dg.vl] using hv
  subst hdb;have:=IU va _ vb d w ha (by rw[←hd];exact hb) (Dg.small_dg _ _ (by omega)) (by omega) hb0 (Dg.small_cons.1 hs).1;rw[Dg.vl_dg _ _ (by omega)] at this;exact this
 ·have:=Tj va vb _ _ w ha hb (Dg.small_dg _ _ (by omega)) (Dg.small_dg _ _ (by omega)) (Dg.norm_dg _ _ (by omega)) hla hlb (by omega)
  rw[Dg.vl_dg _ _ (by omega),Dg.vl_dg _ _ (by omega)] at this;exact this
theorem kV (s:Bool)(ao:Option Addr)(ca:Nat)(xs:List Nat)(e:Int)(t:Bool)(bo:Option Addr)(cb:Nat)(ys:List Nat)(f:Int)(w:World)
  (hr:Rd w .u32 (.slice ao xs.length ca) xs) (hq:Rd w .u32 (.slice bo ys.length cb) ys) (sa:Dg.Small 4294967296 xs) (sb:Dg.Small 4294967296 ys):
  Calls Tryd.prog 25 #[.agg #[.bool s,.slice ao xs.length ca,.int .i64 e,.bool t,.slice bo ys.length cb,.int .i64 f]] w fun z w'=>z= .returned (.int .i64 (cu s xs e t ys f))∧Below w.heap.size w w':=by
 have bA:=af w (.cells #[.bool s,.slice ao xs.length ca,.int .i64 e,.bool t,.slice bo ys.length cb,.int .i64 f] 27);have l0:=aJ w (.bool s) (.slice ao xs.length ca) (.int .i64 e) (.bool t) (.slice bo ys.length cb) (.int .i64 f) 27;have hc:=ua s ao ca xs e t bo cb ys f _ (hr.l bA) (hq.l bA);obtain⟨A,hA⟩: ∃A:ak,(⟨s,Dg.vl 4294967296 xs,e⟩:ak)=A:=⟨_,rfl⟩;obtain⟨B,hB⟩: ∃B:ak,(⟨t,Dg.vl 4294967296 ys,f⟩:ak)=B:=⟨_,rfl⟩;have HO:Hid (dQ xs e ys f=0→(∀w1,Below w.heap.size w w1→Calls Tryd.prog 22 #[.agg #[.bool s,.slice ao xs.length ca,.int .i64 e]] w1 (dr w1 (bare A)))∧(∀w1,Below w.heap.size w w1→Calls Tryd.prog 22 #[.agg #[.bool t,.slice bo ys.length cb,.int .i64 f]] w1 (dr w1 (bare B)))∧
   (∀v u w1,Rv w1 v (bare A)→Rv w1 u (bare B)→Calls Tryd.prog 21 #[v,u] w1 fun z w'=>z= .returned (.int .i64 (dJ (aG A (dV B))))∧Below w1.heap.size w1 w')):=fun h=>by
  obtain⟨h1,h2⟩:=iN h;obtain⟨c1,e1,e2⟩:=bL h1;obtain⟨c2,f1,f2⟩:=bL h2;have z1:=aF c1;have z2:=aF c2;have x1:(Dg.dg 4294967296 (Dg.vl 4294967296 xs)).length≤1200:=by rw[←Dg.eq_dg 4294967296 (by omega) xs _ sa z1.1 rfl];exact z1.2
  have x2:(Dg.dg 4294967296 (Dg.vl 4294967296 ys)).length≤1200:=by rw[←Dg.eq_dg 4294967296 (by omega) ys _ sb z2.1 rfl];exact z2.2
  obtain⟨p1,p2,p3⟩:=eT (t:=A) (by rw[←hA];exact x1) (by rw[←hA];exact e1) (by rw[←hA];exact e2);obtain⟨q1,q2,q3⟩:=eT (t:=B) (by rw[←hB];exact x2) (by rw[←hB];exact f1) (by rw[←hB];exact f2);refine⟨fun w1 b1=> ?_,fun w1 b1=> ?_,fun v u w1 hv hu=> ?_⟩
  ·rw[←hA];exact bQ s ao ca xs e w1 (hr.l b1) sa (by omega) (by omega) (by omega)
  ·rw[←hB];exact bQ t bo cb ys f w1 (hq.l b1) sb (by omega) (by omega) (by omega)
  ·have:=gQ v u (bare A) (bare B) w1 hv hu (by omega) (by omega) (by omega) (by omega) (by omega) (by omega)
   rwa [lP] at this
 unfold cu;rw[hA,hB];obtain⟨c,hcc⟩: ∃c,dQ xs e ys f=c:=⟨_,rfl⟩;obtain⟨g,hg⟩: ∃g,dJ (aG A (dV B))=g:=⟨_,rfl⟩;rw[hcc] at hc HO⊢;rw[hg] at HO⊢;clear hcc hg hr hq sa sb hA hB
 by_cases h:c=0
 ·subst h
  simp only[if_true];obtain⟨hoa,hob,hrf⟩:=HO.out rfl;obtain⟨⟨as',an',ae'⟩,hat⟩: ∃bt,bare A=bt:=⟨_,rfl⟩;obtain⟨⟨ds',dn',de'⟩,hdt⟩: ∃bt,bare B=bt:=⟨_,rfl⟩;rw[hat] at hoa hrf;rw[hdt] at hob hrf;have HOA:Hid _:=hoa;have HOB:Hid _:=hob;have HRF:Hid _:=hrf;clear HO hoa hob hrf hat hdt
  go_enter Tryd.func25,Tryd.ntmps25
  go_wp2_with fail
  refine hc.mono ?_;rintro z w2 ⟨rfl,b2⟩;have bd:Below w2.heap.size w2 w2.drew:=(Below.refl _ _).drew;have l3:=(l0.l b2).l bd;have b03:=aa (aa bA b2) bd;obtain⟨-,⟨c0,c1,c2,c3,c4,c5⟩,-⟩:=id l3;clear hc l0 bA b2 bd
  go_wp2_with fail
  go_region_held3 (fun wq=>(wq.cell? ⟨w.heap.size,0,none⟩=some (.bool s)∧wq.cell? ⟨w.heap.size,1,none⟩=some (.slice ao xs.length ca)∧wq.cell? ⟨w.heap.size,2,none⟩=some (.int .i64 e))∧wq.cell? ⟨w.heap.size,3,none⟩=some (.bool t)∧wq.cell? ⟨w.heap.size,4,none⟩=some (.slice bo ys.length cb)∧wq.cell? ⟨w.heap.size,5,none⟩=some (.int .i64 f)) (go_keep) (first
   | (go_at_call 22;refine(HOA.out _ b03).mono ?_;rintro z w4 ⟨v1,rfl,q1,b4⟩;have l4:=l3.l b4;have b04:=aa b03 b4;obtain⟨-,⟨p0,p1,p2,p3,p4,p5⟩,-⟩:=id l4;clear b03)
   | (go_at_call 22;refine(HOB.out _ b04).mono ?_;rintro z w5 ⟨v2,rfl,q2,b5⟩;have l5:=l4.l b5;have b05:=aa b04 b5;have q15:=q1.l b5;obtain⟨-,⟨t0,t1,t2,t3,t4,t5⟩,-⟩:=id l5)
   | (go_at_call 21;refine(HRF.out _ _ w5 ⟨_,rfl,q15⟩ ⟨_,rfl,q2⟩).mono ?_;rintro z w6 ⟨rfl,b6⟩;have l6:=l5.l b6;have b06:=aa b05 b6;obtain⟨-,⟨u0,u1,u2,u3,u4,u5⟩,-⟩:=id l6))
  clear HOA HOB HRF c0 c1 c2 c3 c4 c5 p0 p1 p2 p3 p4 p5 t0 t1 t2 t3 t4 t5 u0 u1 u2 u3 u4 u5
  by_cases h2:0<g
  ·have H2:Hid (0<g):=h2
   go_wp2
   go_ret
   exact⟨by first|rfl|rw[if_pos H2.out],b06⟩
  ·have H2:Hid (¬0<g):=h2
   go_wp2
   go_ret
   exact⟨by first|rfl|rw[if_neg H2.out],b06⟩
 ·rw[if_neg h]
  have h3:(c==0)=false:=by simp[h]
  clear HO
  go_enter Tryd.func25,Tryd.ntmps25
  go_wp2_with fail
  refine hc.mono ?_;rintro z w2 ⟨rfl,b2⟩;have b02:=aa bA b2;clear hc
  go_wp2
  go_quiet (fail)
  go_wp2
  go_ret
  exact⟨rfl,aL b02 _⟩
theorem BL (v:Value)(a:ak)(w:World)(hv:Rv w v (bare a))(hLa:(Dg.dg 65536 (bare a).n).length≤30000)(ha1: -200000≤(bare a).e)(ha2:(bare a).e≤200000):
  yC 23 #[v] w (yR w (yi (bJ a fL))):=by
 have HC:Hid (yH w 21 #[v,ydV false yN 0] (yi (bJ a fL))):=fun w1 b1=>by
  have h:=gQ v (ydV false yN 0) (bare a) (bare fL) w1 (hv.l b1) ⟨_,rfl,aN _ _⟩ hLa (by show(Dg.dg 65536 0).length≤30000;rw[show Dg.dg 65536 0=[] from rfl];simp) ha1 ha2 (by show-200000≤(0:Int);omega) (by show(0:Int)≤200000;omega)
  rw[lP] at h;exact h
 obtain⟨s0,rfl,ra⟩:=hv;obtain⟨ao,ca,rfl⟩:=ra.shape;obtain⟨⟨bs,bn,be⟩,hb⟩: ∃b,bare a=b:=⟨_,rfl⟩;rw[hb] at HC⊢;clear ra hb hLa ha1 ha2;simp only at HC⊢;obtain⟨m,hm⟩: ∃m,(Dg.dg 65536 bn).length=m:=⟨_,rfl⟩;rw[hm] at HC⊢;obtain⟨g,hg⟩: ∃g,bJ a fL=g:=⟨_,rfl⟩;rw[hg] at HC⊢;clear hm hg;have ba:=af w (.cells (ydA bs (.slice ao m ca) be) 36)
 go_enter Tryd.func23,Tryd.ntmps23
 go_wp2_with fail
 refine(HC.out _ ba).mono ?_;rintro z w2 ⟨rfl,b2⟩;have b02:=aa ba b2
 go_wp2
 go_ret
 exact⟨rfl,b02⟩
end Go.Proofs.YtiakgfmlpdfhdaaDoor

/-
  Texts laid together: Dy4.
-/
import Derived.Test.YtdhpndnncmagiaaGreatDoorMa10
import Derived.Test.YtdhpndnncmagiaaGreatDoorMa13
set_option maxRecDepth 100000
set_option maxHeartbeats 1600000
namespace Go.Proofs.YtdhpndnncmagiaaGreatDoor
open _root_.Go.Proofs.Tryz
open Go.RowKit
theorem Zm (ts:Bool)(ao:Option Addr)(ca n:Nat)(e x:Int)(w:World)(hr:Rd w .u32 (.slice ao (Dg.dg 4294967296 n).length ca) (Dg.dg 4294967296 n))(hL:(Dg.dg 4294967296 n).length≤500000)
  (_h1: -1000000≤e) (_h2:e≤1000000) (_h3: -1000000≤x) (h4:x≤e) (h5:e-x≤1000000):
  Calls Tryz.prog 136 #[.agg #[.bool ts,.slice ao (Dg.dg 4294967296 n).length ca,.int .i64 e],.int .i64 x] w (Num w (n*2^ (e-x).toNat)):=by
 have HSH:Hid (∀w1,Below w.heap.size w w1→Calls Tryz.prog 47 #[.slice ao (Dg.dg 4294967296 n).length ca,.int .i64 (e-x)] w1 (Num w1 (n*2^ (e-x).toNat))):=fun w1 b1=>by
  have:=eO _ _ (e-x) w1 (hr.l b1) (Dg.small_dg _ _ (by omega)) (by omega) (by omega) (by omega)
  rwa [Dg.vl_dg _ _ (by omega),CE n _ (by omega)] at this
 obtain⟨m,hm⟩: ∃m,(Dg.dg 4294967296 n).length=m:=⟨_,rfl⟩;obtain⟨q,hq⟩: ∃q,n*2^ (e-x).toNat=q:=⟨_,rfl⟩;rw[hm,hq] at HSH⊢;clear hm hr hL hq;have l1:=aA w (.bool ts) (.slice ao m ca) (.int .i64 e) 86;have bA:=af w (.cells #[.bool ts,.slice ao m ca,.int .i64 e] 86);have bd:Below (w.alloc (.cells #[.bool ts,.slice ao m ca,.int .i64 e] 86)).heap.size (w.alloc (.cells #[.bool ts,.slice ao m ca,.int .i64 e] 86)) (w.alloc (.cells #[.bool ts,.slice ao m ca,.int .i64 e] 86)).drew:=(Below.refl _ _).drew;have l1:=l1.l bd;have b02:=aa bA bd;clear bA bd;have e3:IntKind.i64.wrap (e-x)=e-x:=IntWalk.i64_in _ ⟨by omega,by omega⟩;obtain⟨-,⟨c0,c1,c2⟩,-⟩:=id l1
 go_enter func136,ntmps136
 go_wp2_with fail
 go_region_held3 (fun wq=>wq.cell? ⟨w.heap.size,0,none⟩=some (.bool ts)∧wq.cell? ⟨w.heap.size,1,none⟩=some (.slice ao m ca)∧wq.cell? ⟨w.heap.size,2,none⟩=some (.int .i64 e)) (go_keep) (first
  | (go_at_call 198;refine(cN ts ao m ca e _).mono ?_;rintro x w3 ⟨rfl,b3⟩;have l13:=l1.l b3;have b03:=aa b02 b3;obtain⟨-,⟨p0,p1,p2⟩,-⟩:=id l13)
  | (go_at_call 47;refine(HSH.out _ b03).mono ?_;rintro x w4 ⟨vs,rfl,own4,b4⟩;have l14:=l13.l b4;have b04:=aa b03 b4;obtain⟨-,⟨q0,q1,q2⟩,-⟩:=id l14))
 all_goals go_wp2
 go_ret
 exact⟨_,rfl,own4.lower b03.size,b04⟩
theorem uj (v u:Value)(a b:ak)(w:World)(hv:Dv w v a)(hu:Dv w u b)(hLa:(Dg.dg 4294967296 a.n).length≤100000)(hLb:(Dg.dg 4294967296 b.n).length≤100000)
  (ha1: -100000≤a.e) (ha2:a.e≤100000) (hb1: -100000≤b.e) (hb2:b.e≤100000):
  Calls Tryz.prog 70 #[v,u] w (jN w (aG a b)):=by
 obtain⟨s0,rfl,ra⟩:=hv;obtain⟨ao,ca,rfl⟩:=ra.shape;obtain⟨s1,rfl,rb⟩:=hu;obtain⟨bo,cb,rfl⟩:=rb.shape;obtain⟨sa,an,ae⟩:=a;obtain⟨sb,bn,be⟩:=b;simp only at ra rb hLa hLb ha1 ha2 hb1 hb2⊢;have HATA:Hid (∀w1,Below w.heap.size w w1→Calls Tryz.prog 136 #[.agg #[.bool sa,.slice ao (Dg.dg 4294967296 an).length ca,.int .i64 ae],.int .i64 (min ae be)] w1 (Num w1 (an*2^ (ae-min ae be).toNat))):=fun w1 b1=>
  Zm sa ao ca an ae (min ae be) w1 (ra.l b1) (by omega) (by omega) (by omega) (by omega) (by omega) (by omega)
 have HATB:Hid (∀w1,Below w.heap.size w w1→Calls Tryz.prog 136 #[.agg #[.bool sb,.slice bo (Dg.dg 4294967296 bn).length cb,.int .i64 be],.int .i64 (min ae be)] w1 (Num w1 (bn*2^ (be-min ae be).toNat))):=fun w1 b1=>
  Zm sb bo cb bn be (min ae be) w1 (rb.l b1) (by omega) (by omega) (by omega) (by omega) (by omega) (by omega)
 have lX:=CF an (ae-min ae be).toNat 100000 6251 hLa (by omega);have lY:=CF bn (be-min ae be).toNat 100000 6251 hLb (by omega);unfold aG;simp only;obtain⟨X,hX⟩: ∃X,an*2^ (ae-min ae be).toNat=X:=⟨_,rfl⟩;obtain⟨Y,hY⟩: ∃Y,bn*2^ (be-min ae be).toNat=Y:=⟨_,rfl⟩;obtain⟨ma,hma⟩: ∃m,(Dg.dg 4294967296 an).length=m:=⟨_,rfl⟩;obtain⟨mb,hmb⟩: ∃m,(Dg.dg 4294967296 bn).length=m:=⟨_,rfl⟩;rw[hX] at HATA lX⊢;rw[hY] at HATB lY⊢;rw[hma] at HATA⊢;rw[hmb] at HATB⊢;obtain⟨x,hx⟩: ∃x,min ae be=x:=⟨_,rfl⟩;have HX:Hid _:=hx;have HPL:Hid (∀v1 v2 w1,Rd w1 .u32 v1 (Dg.dg 4294967296 X)→Rd w1 .u32 v2 (Dg.dg 4294967296 Y)→Calls Tryz.prog 48 #[v1,v2] w1 (Num w1 (X+Y))):=fun v1 v2 w1 h1 h2=>by
  have:=rj v1 v2 _ _ w1 h1 h2 (Dg.small_dg _ _ (by omega)) (Dg.small_dg _ _ (by omega)) (by omega) (by omega)
  rwa [Dg.vl_dg _ _ (by omega),Dg.vl_dg _ _ (by omega)] at this
 have HCM:Hid (∀v1 v2 w1,Rd w1 .u32 v1 (Dg.dg 4294967296 X)→Rd w1 .u32 v2 (Dg.dg 4294967296 Y)→Calls Tryz.prog 51 #[v1,v2] w1 fun e w'=>e= .returned (.int .i64 (dm X Y))∧Below w1.heap.size w1 w'):=fun v1 v2 w1 h1 h2=>by
  have:=jF v1 v2 _ _ w1 h1 h2 (Dg.small_dg _ _ (by omega)) (Dg.small_dg _ _ (by omega)) (Dg.norm_dg _ _ (by omega)) (Dg.norm_dg _ _ (by omega))
  rwa [Dg.vl_dg _ _ (by omega),Dg.vl_dg _ _ (by omega)] at this
 have HMI:Hid (∀P Q v1 v2 w1,P≤Q→(Dg.dg 4294967296 Q).length≤500000→Rd w1 .u32 v1 (Dg.dg 4294967296 Q)→Rd w1 .u32 v2 (Dg.dg 4294967296 P)→Calls Tryz.prog 138 #[v1,v2] w1 (Num w1 (Q-P))):=fun P Q v1 v2 w1 hle hl h1 h2=>by
  have:=zL v1 v2 _ _ w1 h1 h2 (Dg.small_dg _ _ (by omega)) (Dg.small_dg _ _ (by omega)) (by omega) (aH _ _ _ (by omega) hle) (by rw[Dg.vl_dg _ _ (by omega),Dg.vl_dg _ _ (by omega)];exact hle)
  rwa [Dg.vl_dg _ _ (by omega),Dg.vl_dg _ _ (by omega)] at this
 clear hX hY hma hmb hx ra rb hLa hLb;obtain⟨A,hA⟩: ∃A,w.alloc (.cells #[.bool sa,.slice ao ma ca,.int .i64 ae] 86)=A:=⟨_,rfl⟩;have la:=aA w (.bool sa) (.slice ao ma ca) (.int .i64 ae) 86;have bA:=af w (.cells #[.bool sa,.slice ao ma ca,.int .i64 ae] 86);have sA:A.heap.size=w.heap.size+1:=by rw[←hA,World.size_alloc]
 rw[hA] at la bA;obtain⟨B,hB⟩: ∃B,A.alloc (.cells #[.bool sb,.slice bo mb cb,.int .i64 be] 86)=B:=⟨_,rfl⟩;have lb:=aA A (.bool sb) (.slice bo mb cb) (.int .i64 be) 86;have bB:=af A (.cells #[.bool sb,.slice bo mb cb,.int .i64 be] 86);have sB:B.heap.size=w.heap.size+1+1:=by rw[←hB,World.size_alloc,sA]
 rw[hB] at lb bB;rw[sA] at lb;have lc:=aA B (.bool false) (.slice none 0 0) (.int .i64 0) 86;have bC:=af B (.cells #[.bool false,.slice none 0 0,.int .i64 0] 86);rw[sB] at lc;have bd:Below (B.alloc (.cells #[.bool false,.slice none 0 0,.int .i64 0] 86)).heap.size (B.alloc (.cells #[.bool false,.slice none 0 0,.int .i64 0] 86)) (B.alloc (.cells #[.bool false,.slice none 0 0,.int .i64 0] 86)).drew:=(Below.refl _ _).drew;have la:=((la.l bB).l bC).l bd;have lb:=(lb.l bC).l bd;have lc:=lc.l bd;have b02:=aa (aa (aa bA bB) bC) bd;rw[←hB,←hA] at la lb lc b02;clear bA bB bC bd sA sB hA hB;have ne3:w.heap.size+1+1≠w.heap.size:=by omega
 have ne4:w.heap.size≠w.heap.size+1+1:=by omega
 by_cases hs:sa=sb
 ·subst hs
  rw[if_pos rfl]
  go_enter func70,ntmps70
  obtain⟨-,⟨ca0,ca1,ca2⟩,-⟩:=id la;obtain⟨-,⟨cb0,cb1,cb2⟩,-⟩:=id lb
  go_wp2_with fail
  go_region_held3 (fun wq=>(wq.cell? ⟨w.heap.size,0,none⟩=some (.bool sa)∧wq.cell? ⟨w.heap.size,1,none⟩=some (.slice ao ma ca)∧wq.cell? ⟨w.heap.size,2,none⟩=some (.int .i64 ae))∧wq.cell? ⟨w.heap.size+1,0,none⟩=some (.bool sa)∧wq.cell? ⟨w.heap.size+1,1,none⟩=some (.slice bo mb cb)∧wq.cell? ⟨w.heap.size+1,2,none⟩=some (.int .i64 be)) (go_keep) (first
   | (go_at_call 136;refine(HATA.out _ b02).mono ?_;rintro z w3 ⟨v1,rfl,o1,b3⟩;have la3:=la.l b3;have lb3:=lb.l b3;have lc3:=lc.l b3;have b03:=aa b02 b3;obtain⟨-,⟨p0,p1,p2⟩,-⟩:=id la3;obtain⟨-,⟨p3,p4,p5⟩,-⟩:=id lb3;clear b02)
   | (go_at_call 136;refine(HATB.out _ b03).mono ?_;rintro z w4 ⟨v2,rfl,o2,b4⟩;have la4:=la3.l b4;have lb4:=lb3.l b4;have lc4:=lc3.l b4;have b04:=aa b03 b4;obtain⟨-,⟨q0,q1,q2⟩,-⟩:=id la4;obtain⟨-,⟨q3,q4,q5⟩,-⟩:=id lb4))
  clear la lb lc la3 lb3 lc3 p0 p1 p2 p3 p4 p5 ca0 ca1 ca2 cb0 cb1 cb2 b03;have r1:=(o1.l b4).rd;have r2:=o2.rd;clear o1 o2 b3 b4;have bd:Below w4.heap.size w4 w4.drew:=(Below.refl _ _).drew;have la5:=la4.l bd;have lb5:=lb4.l bd;have lc5:=lc4.l bd;have b05:=aa b04 bd;have r1:=r1.l bd;have r2:=r2.l bd;obtain⟨-,⟨c0,c1,c2⟩,-⟩:=id la5;obtain⟨-,⟨c3,c4,c5⟩,-⟩:=id lb5;clear la4 lb4 lc4 bd q0 q1 q2 q3 q4 q5
  go_wp2
  go_region_held3 (fun wq=>wq.cell? ⟨w.heap.size,0,none⟩=some (.bool sa)) (go_keep) (first
   | (go_at_call 48;refine(HPL.out v1 v2 _ r1 r2).mono ?_;rintro z w6 ⟨vs,rfl,o6,b6⟩;have la6:=la5.l b6;have lb6:=lb5.l b6;have lc6:=lc5.l b6;have b06:=aa b05 b6;obtain⟨so,sc,hvs⟩:=o6.rd.shape;subst hvs;obtain⟨-,⟨t0,t1,t2⟩,-⟩:=id la6;clear r1)
   | (go_at_call 137;refine(l9 sa so _ sc _ _).mono ?_;rintro z w7 ⟨rfl,b7⟩;have la7:=la6.l b7;have lb7:=lb6.l b7;have lc7:=lc6.l b7;have b07:=aa b06 b7;obtain⟨-,⟨u0,u1,u2⟩,-⟩:=id la7;obtain⟨hl7,⟨d0,d1,d2⟩,f0,f1,f2⟩:=id lc7))
  all_goals go_wp2
  obtain⟨-,⟨g0,g1,g2⟩,-⟩:=aD lc7 (.bool sa) (.slice so (Dg.dg 4294967296 (X+Y)).length sc) (.int .i64 (min ae be));have o7:=(o6.l b7).apart3 (b:=w.heap.size+1+1) lc5.1 (.bool sa) (.slice so (Dg.dg 4294967296 (X+Y)).length sc) (.int .i64 (min ae be));have b8:=am b07 (show w.heap.size≤w.heap.size+1+1 by omega) (.bool sa) (.slice so (Dg.dg 4294967296 (X+Y)).length sc) (.int .i64 (min ae be))
  refine bodyPost_ret (v:= .agg #[.bool sa,.slice so (Dg.dg 4294967296 (X+Y)).length sc,.int .i64 (min ae be)]) (by simp[results,results70,go_sem,g0,g1,g2]) rfl ?_;exact⟨_,rfl,o7.lower b05.size,b8⟩
 ·rw[if_neg hs]
  have hsb:(sa==sb)=false:=by simp[hs]
  by_cases hlt:X<Y
  ·rw[if_pos hlt]
   rw[gX (by omega)] at HCM
   go_enter func70,ntmps70
   obtain⟨-,⟨ca0,ca1,ca2⟩,-⟩:=id la;obtain⟨-,⟨cb0,cb1,cb2⟩,-⟩:=id lb
   go_wp2_with fail
   go_region_held3 (fun wq=>(wq.cell? ⟨w.heap.size,0,none⟩=some (.bool sa)∧wq.cell? ⟨w.heap.size,1,none⟩=some (.slice ao ma ca)∧wq.cell? ⟨w.heap.size,2,none⟩=some (.int .i64 ae))∧wq.cell? ⟨w.heap.size+1,0,none⟩=some (.bool sb)∧wq.cell? ⟨w.heap.size+1,1,none⟩=some (.slice bo mb cb)∧wq.cell? ⟨w.heap.size+1,2,none⟩=some (.int .i64 be)) (go_keep) (first
    | (go_at_call 136;refine(HATA.out _ b02).mono ?_;rintro z w3 ⟨v1,rfl,o1,b3⟩;have la3:=la.l b3;have lb3:=lb.l b3;have lc3:=lc.l b3;have b03:=aa b02 b3;obtain⟨-,⟨p0,p1,p2⟩,-⟩:=id la3;obtain⟨-,⟨p3,p4,p5⟩,-⟩:=id lb3;clear b02)
    | (go_at_call 136;refine(HATB.out _ b03).mono ?_;rintro z w4 ⟨v2,rfl,o2,b4⟩;have la4:=la3.l b4;have lb4:=lb3.l b4;have lc4:=lc3.l b4;have b04:=aa b03 b4;obtain⟨-,⟨q0,q1,q2⟩,-⟩:=id la4;obtain⟨-,⟨q3,q4,q5⟩,-⟩:=id lb4))
   clear la lb lc la3 lb3 lc3 p0 p1 p2 p3 p4 p5 ca0 ca1 ca2 cb0 cb1 cb2 b03;have r1:=(o1.l b4).rd;have r2:=o2.rd;clear o1 o2 b3 b4
   go_wp2_with fail
   refine(HCM.out v1 v2 w4 r1 r2).mono ?_;rintro z w9 ⟨rfl,b9⟩;have la4:=la4.l b9;have lb4:=lb4.l b9;have lc4:=lc4.l b9;have b04:=aa b04 b9;have r1:=r1.l b9;have r2:=r2.l b9;clear b9;have bd:Below w9.heap.size w9 w9.drew:=(Below.refl _ _).drew;have la5:=la4.l bd;have lb5:=lb4.l bd;have lc5:=lc4.l bd;have b05:=aa b04 bd;have r1:=r1.l bd;have r2:=r2.l bd;obtain⟨-,⟨c0,c1,c2⟩,-⟩:=id la5;obtain⟨-,⟨c3,c4,c5⟩,-⟩:=id lb5;clear la4 lb4 lc4 bd q0 q1 q2 q3 q4 q5
   go_wp2
   go_region_held3 (fun wq=>wq.cell? ⟨w.heap.size+1,0,none⟩=some (.bool sb)) (go_keep) (first
    | (go_at_call 138;refine(HMI.out X Y v2 v1 _ (by omega) (by omega) r2 r1).mono ?_;rintro z w6 ⟨vs,rfl,o6,b6⟩;have la6:=la5.l b6;have lb6:=lb5.l b6;have lc6:=lc5.l b6;have b06:=aa b05 b6;obtain⟨so,sc,hvs⟩:=o6.rd.shape;subst hvs;obtain⟨-,⟨t0,t1,t2⟩,-⟩:=id lb6;clear r1)
    | (go_at_call 137;refine(l9 sb so _ sc _ _).mono ?_;rintro z w7 ⟨rfl,b7⟩;have la7:=la6.l b7;have lb7:=lb6.l b7;have lc7:=lc6.l b7;have b07:=aa b06 b7;obtain⟨-,⟨u0,u1,u2⟩,-⟩:=id lb7;obtain⟨hl7,⟨d0,d1,d2⟩,f0,f1,f2⟩:=id lc7))
   all_goals go_wp2
   obtain⟨-,⟨g0,g1,g2⟩,-⟩:=aD lc7 (.bool sb) (.slice so (Dg.dg 4294967296 (Y-X)).length sc) (.int .i64 (min ae be));have o7:=(o6.l b7).apart3 (b:=w.heap.size+1+1) lc5.1 (.bool sb) (.slice so (Dg.dg 4294967296 (Y-X)).length sc) (.int .i64 (min ae be));have b8:=am b07 (show w.heap.size≤w.heap.size+1+1 by omega) (.bool sb) (.slice so (Dg.dg 4294967296 (Y-X)).length sc) (.int .i64 (min ae be))
   refine bodyPost_ret (v:= .agg #[.bool sb,.slice so (Dg.dg 4294967296 (Y-X)).length sc,.int .i64 (min ae be)]) (by simp[results,results70,go_sem,g0,g1,g2]) rfl ?_;exact⟨_,rfl,o7.lower b05.size,b8⟩
  ·rw[if_neg hlt]
   have hd:=abX (a:=(X:Int)) (b:=(Y:Int)) (by omega);obtain⟨r,hr⟩: ∃r,dm X Y=r:=⟨_,rfl⟩;rw[hr] at hd HCM;clear hr
   go_enter func70,ntmps70
   obtain⟨-,⟨ca0,ca1,ca2⟩,-⟩:=id la;obtain⟨-,⟨cb0,cb1,cb2⟩,-⟩:=id lb
   go_wp2_with fail
   go_region_held3 (fun wq=>(wq.cell? ⟨w.heap.size,0,none⟩=some (.bool sa)∧wq.cell? ⟨w.heap.size,1,none⟩=some (.slice ao ma ca)∧wq.cell? ⟨w.heap.size,2,none⟩=some (.int .i64 ae))∧wq.cell? ⟨w.heap.size+1,0,none⟩=some (.bool sb)∧wq.cell? ⟨w.heap.size+1,1,none⟩=some (.slice bo mb cb)∧wq.cell? ⟨w.heap.size+1,2,none⟩=some (.int .i64 be)) (go_keep) (first
    | (go_at_call 136;refine(HATA.out _ b02).mono ?_;rintro z w3 ⟨v1,rfl,o1,b3⟩;have la3:=la.l b3;have lb3:=lb.l b3;have lc3:=lc.l b3;have b03:=aa b02 b3;obtain⟨-,⟨p0,p1,p2⟩,-⟩:=id la3;obtain⟨-,⟨p3,p4,p5⟩,-⟩:=id lb3;clear b02)
    | (go_at_call 136;refine(HATB.out _ b03).mono ?_;rintro z w4 ⟨v2,rfl,o2,b4⟩;have la4:=la3.l b4;have lb4:=lb3.l b4;have lc4:=lc3.l b4;have b04:=aa b03 b4;obtain⟨-,⟨q0,q1,q2⟩,-⟩:=id la4;obtain⟨-,⟨q3,q4,q5⟩,-⟩:=id lb4))
   clear la lb lc la3 lb3 lc3 p0 p1 p2 p3 p4 p5 ca0 ca1 ca2 cb0 cb1 cb2 b03;have r1:=(o1.l b4).rd;have r2:=o2.rd;clear o1 o2 b3 b4
   go_wp2_with fail
   refine(HCM.out v1 v2 w4 r1 r2).mono ?_;rintro z w9 ⟨rfl,b9⟩;have la4:=la4.l b9;have lb4:=lb4.l b9;have lc4:=lc4.l b9;have b04:=aa b04 b9;have r1:=r1.l b9;have r2:=r2.l b9;clear b9;have bd:Below w9.heap.size w9 w9.drew:=(Below.refl _ _).drew;have la5:=la4.l bd;have lb5:=lb4.l bd;have lc5:=lc4.l bd;have b05:=aa b04 bd;have r1:=r1.l bd;have r2:=r2.l bd;obtain⟨-,⟨c0,c1,c2⟩,-⟩:=id la5;obtain⟨-,⟨c3,c4,c5⟩,-⟩:=id lb5;clear la4 lb4 lc4 bd q0 q1 q2 q3 q4 q5
   go_wp2
   go_region_held3 (fun wq=>wq.cell? ⟨w.heap.size,0,none⟩=some (.bool sa)) (go_keep) (first
    | (go_at_call 138;refine(HMI.out Y X v1 v2 _ (by omega) (by omega) r1 r2).mono ?_;rintro z w6 ⟨vs,rfl,o6,b6⟩;have la6:=la5.l b6;have lb6:=lb5.l b6;have lc6:=lc5.l b6;have b06:=aa b05 b6;obtain⟨so,sc,hvs⟩:=o6.rd.shape;subst hvs;obtain⟨-,⟨t0,t1,t2⟩,-⟩:=id la6;clear r1)
    | (go_at_call 137;refine(l9 sa so _ sc _ _).mono ?_;rintro z w7 ⟨rfl,b7⟩;have la7:=la6.l b7;have lb7:=lb6.l b7;have lc7:=lc6.l b7;have b07:=aa b06 b7;obtain⟨-,⟨u0,u1,u2⟩,-⟩:=id la7;obtain⟨hl7,⟨d0,d1,d2⟩,f0,f1,f2⟩:=id lc7))
   all_goals go_wp2
   obtain⟨-,⟨g0,g1,g2⟩,-⟩:=aD lc7 (.bool sa) (.slice so (Dg.dg 4294967296 (X-Y)).length sc) (.int .i64 (min ae be));have o7:=(o6.l b7).apart3 (b:=w.heap.size+1+1) lc5.1 (.bool sa) (.slice so (Dg.dg 4294967296 (X-Y)).length sc) (.int .i64 (min ae be));have b8:=am b07 (show w.heap.size≤w.heap.size+1+1 by omega) (.bool sa) (.slice so (Dg.dg 4294967296 (X-Y)).length sc) (.int .i64 (min ae be))
   refine bodyPost_ret (v:= .agg #[.bool sa,.slice so (Dg.dg 4294967296 (X-Y)).length sc,.int .i64 (min ae be)]) (by simp[results,results70,go_sem,g0,g1,g2]) rfl ?_;exact⟨_,rfl,o7.lower b05.size,b8⟩
end Go.Proofs.YtdhpndnncmagiaaGreatDoor

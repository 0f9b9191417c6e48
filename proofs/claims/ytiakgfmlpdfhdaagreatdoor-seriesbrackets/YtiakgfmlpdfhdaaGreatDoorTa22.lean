/-
  Texts laid together: Dz, Ref6, Aw0, Co14, Dy5, Se2, Gr7, Into2, Fi6, Ce2, Rk1, Sp5, Sp7, BlM, Sr2, Sr5, Br1, Br4.
-/
import Derived.Test.YtiakgfmlpdfhdaaGreatDoorTa15
import Derived.Test.YtiakgfmlpdfhdaaGreatDoorTa17
set_option maxRecDepth 100000
set_option maxHeartbeats 3200000
namespace Go.Proofs.YtiakgfmlpdfhdaaGreatDoor
open _root_.Go.Proofs.Tryz
open Go.RowKit
theorem Ny (s t:Bool)(x y:Nat):sz (s != t) (x*y)=sz s x*sz t y:=by
 unfold sz
 cases s<;>cases t<;>simp[Int.neg_mul,Int.mul_neg]
theorem kD (va:Value)(xs:List Nat)(n:Nat)(w:World)(ha:Rd w .i64 va xs)(sa:Dg.Small 65536 xs)(hla:xs.length≤1000000)(hnl:n≤1000000):
  yC 49 #[va,yi n] w (cG w (Dg.vl 65536 xs*2^n)):=by
 obtain⟨ao,ca,rfl⟩:=ha.shape
 by_cases hne:xs=[]
 ·subst hne
  have hz:Dg.vl 65536 []*2^n=0:=by simp[Dg.vl]
  rw[hz]
  go_enter func49,ntmps49
  go_wp2
  go_ret
  exact⟨_,rfl,(aQ _ 0 0 _).rd,Below.refl _ _⟩
 ·have h00:((xs.length:Int)==0)=false:=by simp;exact hne
  have hp:=pf n (n/16) (n % 16) w (by omega) (by omega) hnl;have hl:=Fr n
  go_enter func49,ntmps49
  go_wp2_with fail
  refine hp.mono ?_;rintro e w1 ⟨v1,rfl,r1,b1⟩;have ht:=fN _ v1 xs _ w1 (ha.l b1) r1 sa (Dg.small_dg _ _ (by omega)) hla (by omega);rw[Dg.vl_dg _ _ (by omega)] at ht
  go_wp2_with fail
  refine ht.mono ?_;rintro e w2 ⟨v2,rfl,r2,b2⟩;have b12:=aa b1 b2;clear ht hp
  go_wp2
  go_ret
  exact⟨_,rfl,r2,b12⟩
def RVF (w:World)(c:Int)(g:Bool)(t:ak)(fl:Int)(z:Ending)(w':World):Prop:=
 ∃s,z= .returned (.tuple #[yoV c g t.s s t.e,yi fl])∧Rd w' .i64 s (Dg.dg 65536 t.n)∧yB w w'
theorem au.grown {w w':World}{b g:Nat}{ty:TypeId}{vs:List Value}(h:au w b ty vs)(hg:w.grownBy w' (some g))(hne:b≠g):au w' b ty vs:=
 (hg.block b h.lt (fun e=>hne (Option.some.inj e))).trans h
theorem xy (b:Nat)(s:Bool)(ao:Option Addr)(ca:Nat)(xs:List Nat)(e:Int)(t:Bool)(bo:Option Addr)(cb:Nat)(ys:List Nat)(f:Int)(w:World)(h0:w.cell? ⟨b,0,none⟩=some (.bool s))(h1:w.cell? ⟨b,1,none⟩=some (.slice ao xs.length ca))(h2:w.cell? ⟨b,2,none⟩=some (yi e))
  (h3:w.cell? ⟨b,3,none⟩=some (.bool t)) (h4:w.cell? ⟨b,4,none⟩=some (.slice bo ys.length cb)) (h5:w.cell? ⟨b,5,none⟩=some (yi f)) (hr:Rd w .u32 (.slice ao xs.length ca) xs) (hq:Rd w .u32 (.slice bo ys.length cb) ys):
  yC 73 #[.slice (some ⟨b,0,none⟩) 2 2] w (yR w (yi (dQ xs e ys f))):=by
 unfold dQ;obtain⟨c,hc⟩: ∃c,aS xs e=c:=⟨_,rfl⟩;obtain⟨d,hd⟩: ∃d,aS ys f=d:=⟨_,rfl⟩;have bA:=af w (.cells (ydA s (.slice ao xs.length ca) e) 25);have hk:=nS s ao ca xs e _ (hr.l bA);have HQ:Hid (yH w 95 #[ydV t (.slice bo ys.length cb) f] (yi d)):=fun w1 b1=>by
  have:=nS t bo cb ys f w1 (hq.l b1)
  rwa [hd] at this
 rw[hc] at hk⊢;rw[hd];clear hc hd hr hq
 by_cases h:c=0
 ·subst h
  rw[if_pos rfl]
  go_enter func73,ntmps73
  go_wp2
  refine wp_loop_rounds 3 ?_;rw[rounds_succ]
  go_wp2_with fail
  refine hk.mono ?_;rintro z w1 ⟨rfl,b1⟩;have b01:=aa bA b1;have k3:=cell_later b01 h3;have k4:=cell_later b01 h4;have k5:=cell_later b01 h5;have b2:=aa b01 (af w1 (.cells (ydA t (.slice bo ys.length cb) f) 25));clear hk bA b1
  go_wp2
  rw[rounds_succ]
  go_wp2_with fail
  refine(HQ.out _ b2).mono ?_;rintro z w2 ⟨rfl,b3⟩;have b03:=aa b2 b3
  by_cases h2:d=0
  ·subst h2
   go_wp2
   rw[rounds_succ]
   go_wp2
   go_ret
   exact⟨rfl,b03⟩
  ·go_wp2
   go_ret
   exact⟨rfl,b03⟩
 ·rw[if_neg h]
  go_enter func73,ntmps73
  go_wp2
  refine wp_loop_rounds 3 ?_;rw[rounds_succ]
  go_wp2_with fail
  refine hk.mono ?_;rintro z w' ⟨rfl,b1⟩;have b01:=aa bA b1
  go_wp2
  go_ret
  exact⟨rfl,b01⟩
theorem serPi_W (p q:ak)(b er:Int)(w:World)
  (HT: ∀w1,yB w w1→yC 35 #[yi b,.func (.func 36) #[] #[]] w1 (BRd w1 p q er)):
  yC 15 #[yi b] w (BRd w p q er):=by
 replace HT:Hid _:=HT;obtain⟨W3,hW4,q1,b2⟩:=cA w [.bool false,yN,yi 0,.bool false,yN,yi 0] 27;replace hW4:Hid _:=hW4
 go_enter func15,ntmps15
 go_upto_region 1 with fail
 rw[hW4.out];clear hW4
 go_wp2_with fail
 refine(HT.out _ b2).mono ?_;rintro zz w5 ⟨v1x7,v2x8,rfl,r1x9,r2x10,bb6⟩;have q11:=q1.l bb6;have b12:=aa b2 bb6;obtain⟨po,pc,hv⟩:=r1x9.shape;subst hv;obtain⟨qo,qc,hv⟩:=r2x10.shape;subst hv;clear q1 b2 bb6 HT;have hf:=fin6 (P:=Tryz.prog) q11 b12 (by omega) underlying27 rfl (by kernel_rfl) (.bool p.s) (yT po p.n pc) (yi p.e) (.bool q.s) (yT qo q.n qc) (yi q.e);have HH:Hid (_∧_∧_∧_):=⟨hf.1,hf.2.2.rd r1x9 (aX r1x9 q11 (by simp)),hf.2.2.rd r2x10 (aX r2x10 q11 (by simp)),hf.2.1⟩;obtain⟨⟨z0,z1,z2,z3,z4,z5⟩,y0,y1,y2,y3,y4,y5⟩:=csf6 q11;clear hf q11 r1x9 r2x10 b12
 go_wp2
 obtain⟨hl,rRp,rRq,bR⟩:=HH.out;exact bodyPost_ret (aj results15 rfl rfl hl) rfl ⟨_,_,rfl,rRp,rRq,bR⟩
theorem serLn2_W (p q:ak)(b er:Int)(w:World)
  (HT: ∀w1,yB w w1→yC 35 #[yi b,.func (.func 48) #[] #[]] w1 (BRd w1 p q er)):
  yC 28 #[yi b] w (BRd w p q er):=by
 replace HT:Hid _:=HT;obtain⟨W3,hW4,q1,b2⟩:=cA w [.bool false,yN,yi 0,.bool false,yN,yi 0] 27;replace hW4:Hid _:=hW4
 go_enter func28,ntmps28
 go_upto_region 1 with fail
 rw[hW4.out];clear hW4
 go_wp2_with fail
 refine(HT.out _ b2).mono ?_;rintro zz w5 ⟨v1x7,v2x8,rfl,r1x9,r2x10,bb6⟩;have q11:=q1.l bb6;have b12:=aa b2 bb6;obtain⟨po,pc,hv⟩:=r1x9.shape;subst hv;obtain⟨qo,qc,hv⟩:=r2x10.shape;subst hv;clear q1 b2 bb6 HT;have hf:=fin6 (P:=Tryz.prog) q11 b12 (by omega) underlying27 rfl (by kernel_rfl) (.bool p.s) (yT po p.n pc) (yi p.e) (.bool q.s) (yT qo q.n qc) (yi q.e);have HH:Hid (_∧_∧_∧_):=⟨hf.1,hf.2.2.rd r1x9 (aX r1x9 q11 (by simp)),hf.2.2.rd r2x10 (aX r2x10 q11 (by simp)),hf.2.1⟩;obtain⟨⟨z0,z1,z2,z3,z4,z5⟩,y0,y1,y2,y3,y4,y5⟩:=csf6 q11;clear hf q11 r1x9 r2x10 b12
 go_wp2
 obtain⟨hl,rRp,rRq,bR⟩:=HH.out;exact bodyPost_ret (aj results28 rfl rfl hl) rfl ⟨_,_,rfl,rRp,rRq,bR⟩
theorem serAtan_W (p q:ak)(n b er:Int)(w:World)
  (HT: ∀w1,yB w w1→yC 37 #[yi n,yi b,.func (.func 38) #[] #[]] w1 (BRd w1 p q er)):
  yC 16 #[yi n,yi b] w (BRd w p q er):=by
 replace HT:Hid _:=HT;obtain⟨W3,hW4,q1,b2⟩:=cA w [.bool false,yN,yi 0,.bool false,yN,yi 0] 27;replace hW4:Hid _:=hW4
 go_enter func16,ntmps16
 go_upto_region 1 with fail
 rw[hW4.out];clear hW4
 go_wp2_with fail
 refine(HT.out _ b2).mono ?_;rintro zz w5 ⟨v1x7,v2x8,rfl,r1x9,r2x10,bb6⟩;have q11:=q1.l bb6;have b12:=aa b2 bb6;obtain⟨po,pc,hv⟩:=r1x9.shape;subst hv;obtain⟨qo,qc,hv⟩:=r2x10.shape;subst hv;clear q1 b2 bb6 HT;have hf:=fin6 (P:=Tryz.prog) q11 b12 (by omega) underlying27 rfl (by kernel_rfl) (.bool p.s) (yT po p.n pc) (yi p.e) (.bool q.s) (yT qo q.n qc) (yi q.e);have HH:Hid (_∧_∧_∧_):=⟨hf.1,hf.2.2.rd r1x9 (aX r1x9 q11 (by simp)),hf.2.2.rd r2x10 (aX r2x10 q11 (by simp)),hf.2.1⟩;obtain⟨⟨z0,z1,z2,z3,z4,z5⟩,y0,y1,y2,y3,y4,y5⟩:=csf6 q11;clear hf q11 r1x9 r2x10 b12
 go_wp2
 obtain⟨hl,rRp,rRq,bR⟩:=HH.out;exact bodyPost_ret (aj results16 rfl rfl hl) rfl ⟨_,_,rfl,rRp,rRq,bR⟩
theorem enter_of {P:Program}{f:FuncId}{fn:Func}{c:Code}(hf:P.funcs[f]? =some fn)(hname:(fn.name== "runtime.NumGoroutine")=false)(hb:fn.body=some c)(args:Array Value)(w:World):Sem.run P (callFunc f args) w= .ok (.enter f args) w:=by
 have hn: ¬fn.name= "runtime.NumGoroutine" :=by simpa using hname
 simp[callFunc,hf,hn,hb]
theorem qM (va vb:Value)(a b:Nat)(w:World)(ha:Rd w .i64 va (Dg.dg 65536 a))(hb:Rd w .i64 vb (Dg.dg 65536 b))(hla:(Dg.dg 65536 a).length≤900000)(hlb:(Dg.dg 65536 b).length≤900000)(hb0:0<b):
  yC 31 #[va,vb] w (JI w (a/b) (a % b)):=by
 have hne: ¬(Dg.dg 65536 b).length=0:=by rw[List.length_eq_zero_iff,Dg.dg_nil_iff _ _ (by omega)];omega
 by_cases h1:(Dg.dg 65536 b).length=1
 ·obtain⟨d,hd⟩: ∃d,Dg.dg 65536 b=[d]:=List.length_eq_one_iff.1 h1
  have hs:=Dg.small_dg 65536 b (by omega);have hv:=Dg.vl_dg 65536 b (by omega);rw[hd] at hs hv;have hdb:d=b:=by simpa[Dg.vl] using hv
  subst hdb;have:=IU va _ vb d w ha (by rw[←hd];exact hb) (Dg.small_dg _ _ (by omega)) (by omega) hb0 (Dg.small_cons.1 hs).1;rw[Dg.vl_dg _ _ (by omega)] at this;exact this
 ·have:=Tj va vb _ _ w ha hb (Dg.small_dg _ _ (by omega)) (Dg.small_dg _ _ (by omega)) (Dg.norm_dg _ _ (by omega)) hla hlb (by omega)
  rw[Dg.vl_dg _ _ (by omega),Dg.vl_dg _ _ (by omega)] at this;exact this
def RVG (w:World)(c:Int)(g:Bool)(t:ak)(fl:Int)(z:Ending)(w':World):Prop:=
 ∃s,z= .returned (.tuple #[yoV c g t.s s t.e,yi fl])∧Rd w' .i64 s (Dg.dg 65536 t.n)∧Far w.heap.size s∧yB w w'
theorem RVG.near {w:World}{c:Int}{g:Bool}{t:ak}{fl:Int}{z:Ending}{w':World}(h:RVG w c g t fl z w'):RVF w c g t fl z w':=by
 obtain⟨s,h1,h2,-,h3⟩:=h;exact⟨s,h1,h2,h3⟩
theorem jp.f {w:World}{base g n cap:Nat}{bs:List Bool}(h:jp w base (.slice (some ⟨g,0,none⟩) n cap) bs)(hn:n=bs.length)(j:Nat):w.frozen? ⟨g,j,none⟩=false:=by
 subst hn;exact World.ownsRow.frozenAt h j
theorem jp.block {w:World}{base g n cap:Nat}{bs:List Bool}(h:jp w base (.slice (some ⟨g,0,none⟩) n cap) bs)(hn:n=bs.length):base≤g∧g<w.heap.size:=by
 subst hn;exact World.ownsRow.lt h g rfl
theorem ut.mono {J K:Int}{N1 M1 N2 M2:Nat}{E1 E2:Int}(h:ut J N1 M1 E1 N2 M2 E2)(hk:J≤K):ut K N1 M1 E1 N2 M2 E2:=fun j hj=>h j (by omega)
theorem inv_tell {n tn b:Nat}(hn:2≤n)(ht:tn≤1)(hb:10≤b∧b≤1000)(hX:chkN (XA n tn 1120)=true):
  ∃c q B,2^b≤2*c∧c<2^b∧((c*2^q:Nat):Int)≤V (b+64) (invLo (lp (n*n) tn (b+64+1) 0 (2^ (b+64)/n) 0 0) (b+64))∧V (b+64) (invLo (lp (n*n) tn (b+64+1) 0 (2^ (b+64)/n) 0 0) (b+64))≤V (b+64) (invHi (lp (n*n) tn (b+64+1) 0 (2^ (b+64)/n) 0 0) (b+64))∧V (b+64) (invHi (lp (n*n) tn (b+64+1) 0 (2^ (b+64)/n) 0 0) (b+64))< (((c+1)*2^q:Nat):Int)∧(c+1)*2^q≤2^B∧B≤9000∧GoodB (XA n tn 1120) b (bare (aY (invLo (lp (n*n) tn (b+64+1) 0 (2^ (b+64)/n) 0 0) (b+64)) b false)) (bare (aY (invHi (lp (n*n) tn (b+64+1) 0 (2^ (b+64)/n) 0 0) (b+64)) b true)):=by
 obtain⟨p1,p2,p3⟩:=inv_lies hn ht hb;obtain⟨L,L1,L2,L0,L3,L4,-⟩:=chk_len hX;obtain⟨e1,e2⟩:=inv_e (lp (n*n) tn (b+64+1) 0 (2^ (b+64)/n) 0 0) (b+64);obtain⟨v1,v2⟩:=V_inv (lp (n*n) tn (b+64+1) 0 (2^ (b+64)/n) 0 0) (b+64);have hD0:0<2^ (1120-(b+64)):=Nat.pow_pos (by omega);have hw:3+3*NA n tn (b+64)≤XA n tn (b+64):=by
  refine not_small (k:=L-1-(1120-(b+64))) ?_ p2 hD0 ?_
  ·rw[←Nat.pow_add,show L-1-(1120-(b+64))+(1120-(b+64))=L-1 by omega]
   exact L3
  ·have h1:=two_mono (a:=13) (b:=L-1-(1120-(b+64))) (by omega)
   have h2:(2:Nat)^13=8192:=by decide
   omega
 have f1:V (b+64) (invLo (lp (n*n) tn (b+64+1) 0 (2^ (b+64)/n) 0 0) (b+64))=((XA n tn (b+64)-(3+3*NA n tn (b+64)):Nat):Int):=by
  rw[v1,Int.ofNat_sub hw];rfl
 have f2:V (b+64) (invHi (lp (n*n) tn (b+64+1) 0 (2^ (b+64)/n) 0 0) (b+64))=((XA n tn (b+64)+(3+3*NA n tn (b+64)):Nat):Int):=by
  rw[v2,Int.natCast_add];rfl
 refine fam_tell (A:=1110) hX (by omega) (by omega) hb (by omega) (by omega) f1 f2 ?_ p2 (by omega);rw[Nat.sub_mul];omega
theorem pi_tell {b:Nat}(hb:10≤b∧b≤1000)(hX:chkN XPi=true)(hL:1121≤Nat.log2 XPi):
  ∃c q B,2^b≤2*c∧c<2^b∧((c*2^q:Nat):Int)≤V (b+64) (piLo (b+64))∧V (b+64) (piLo (b+64))≤V (b+64) (piHi (b+64))∧V (b+64) (piHi (b+64))< (((c+1)*2^q:Nat):Int)∧(c+1)*2^q≤2^B∧B≤9000∧GoodB XPi b (bare (aY (piLo (b+64)) b false)) (bare (aY (piHi (b+64)) b true)):=by
 obtain⟨p1,p2,p3⟩:=inv_lies (n:=5) (tn:=1) (by omega) (by omega) hb;obtain⟨r1,r2,r3⟩:=inv_lies (n:=239) (tn:=1) (by omega) (by omega) hb;obtain⟨L,L1,L2,L0,L3,L4,-⟩:=chk_len hX;obtain⟨v1,v2,e1,e2,-,-⟩:=pi_V (b+64);obtain⟨D,hD⟩: ∃D,2^ (1120-(b+64))=D:=⟨_,rfl⟩;rw[hD] at p1 p2 r1 r2;have h16:4*XA 239 1 1120≤16*XA 5 1 1120:=by
  have:XPi≠0:=by
   intro e;rw[e] at hL;simp at hL
  unfold XPi at this;omega
 have hXI:(XPi:Int)=16*(XA 5 1 1120:Int)-4*(XA 239 1 1120:Int):=by
  unfold XPi;rw[Int.ofNat_sub h16];omega
 have q1:(XA 5 1 (b+64):Int)*(D:Int)≤(XA 5 1 1120:Int)+((3+3*NA 5 1 (b+64):Nat):Int)*(D:Int):=by rw[←Int.natCast_mul,←Int.natCast_mul,←Int.natCast_add];exact Int.ofNat_le.2 p1
 have q2:(XA 5 1 1120:Int)≤((XA 5 1 (b+64):Int)+((3+3*NA 5 1 (b+64):Nat):Int))*(D:Int):=by rw[←Int.natCast_add,←Int.natCast_mul];exact Int.ofNat_le.2 p2
 have q3:(XA 239 1 (b+64):Int)*(D:Int)≤(XA 239 1 1120:Int)+((3+3*NA 239 1 (b+64):Nat):Int)*(D:Int):=by rw[←Int.natCast_mul,←Int.natCast_mul,←Int.natCast_add];exact Int.ofNat_le.2 r1
 have q4:(XA 239 1 1120:Int)≤((XA 239 1 (b+64):Int)+((3+3*NA 239 1 (b+64):Nat):Int))*(D:Int):=by rw[←Int.natCast_add,←Int.natCast_mul];exact Int.ofNat_le.2 r2
 have n1:((3+3*NA 5 1 (b+64):Nat):Int)≤4000:=by omega
 have n2:((3+3*NA 239 1 (b+64):Nat):Int)≤4000:=by omega
 obtain⟨lo,hlo⟩: ∃x,V (b+64) (piLo (b+64))=x:=⟨_,rfl⟩;obtain⟨hi,hhi⟩: ∃x,V (b+64) (piHi (b+64))=x:=⟨_,rfl⟩;rw[hlo] at v1;rw[hhi] at v2;have z1:lo*(D:Int)≤(XPi:Int):=by
  rw[v1,hXI];simp only[Int.sub_mul,Int.add_mul,Int.mul_assoc] at q1 q2 q3 q4⊢;omega
 have z2:(XPi:Int)≤hi*(D:Int):=by
  rw[v2,hXI];simp only[Int.sub_mul,Int.add_mul,Int.mul_assoc] at q1 q2 q3 q4⊢;omega
 have h25:(2:Nat)^25=33554432:=by decide
 have z3:hi≤lo+((2^25:Nat):Int):=by
  rw[h25];omega
 have z4:2^25*D<XPi:=by
  rw[←hD,←Nat.pow_add];exact Nat.lt_of_lt_of_le (Nat.pow_lt_pow_right (by omega) (by omega)) L3
 have z0:=to_nat z2 z3 z4;obtain⟨lN,rfl⟩: ∃n:Nat,lo=(n:Int):=⟨lo.toNat,by omega⟩;have hz:0≤hi:=by omega
 obtain⟨hN,rfl⟩: ∃n:Nat,hi=(n:Int):=⟨hi.toNat,by omega⟩;rw[←Int.natCast_mul] at z1 z2;refine fam_tell (A:=1121) hX (by omega) hL hb e1 e2 hlo hhi ?_ ?_ ?_
 ·rw[hD];exact Int.ofNat_le.1 z1
 ·rw[hD];exact Int.ofNat_le.1 z2
 ·exact Int.ofNat_le.1 (by rw[Int.natCast_add];exact z3)
theorem ZB.off {w w':World}{q b:Nat}(h:ZB w q)(hg:w.grownBy w' (some b))(hne:q≠b):ZB w' q:=by
 obtain⟨hl,ty,hh⟩:=h;exact⟨Nat.lt_of_lt_of_le hl hg.size,ty,(hg.block q hl (by intro e;cases e;exact hne rfl)).trans hh⟩
theorem ZB6.off {w w':World}{q b:Nat}(h:ZB6 w q)(hg:w.grownBy w' (some b))(hne:q≠b):ZB6 w' q:=by
 obtain⟨hl,ty,hh⟩:=h;exact⟨Nat.lt_of_lt_of_le hl hg.size,ty,(hg.block q hl (by intro e;cases e;exact hne rfl)).trans hh⟩
theorem chk_ofS {zs:List Nat}(hn:Dg.Norm zs)(hl:zs.length≤1200):chk zs=0:=by
 unfold chk;rw[if_neg (fun c=>hn (by intro e;rw[e] at c;simp at c) c.2),if_neg (by omega)]
theorem BRd.nil {w:World}{er:Int}{z:Ending}{w':World}(h:BRd w ⟨false,0,0⟩ ⟨false,0,0⟩ er z w'): ∃po pc qo qc,z= .returned (.tuple #[.agg #[.bool false,.slice po 0 pc,yi 0,.bool false,.slice qo 0 qc,yi 0],yi er])∧Hid (pc≤maxLen∧qc≤maxLen)∧yB w w':=by
 obtain⟨p,q,h1,h2,h3,h4⟩:=h;obtain⟨po,pc,rfl,-,c1,-⟩:=h2;obtain⟨qo,qc,rfl,-,c2,-⟩:=h3;exact⟨po,pc,qo,qc,h1,⟨c1,c2⟩,h4⟩
theorem bracket_err (sa sb:Bool)(ao bo:Option Addr)(la lb ac bc:Nat)(ea eb:Int)(m k:Int)(w:World)(hk:(k==0)=false)
  (HK:yH w 21 #[.agg #[.bool sa,.slice ao la ac,yi ea,.bool sb,.slice bo lb bc,yi eb]] (yi k)):
  yC 5 #[.agg #[.bool sa,.slice ao la ac,yi ea,.bool sb,.slice bo lb bc,yi eb],yi m] w (yR w (.tuple #[yi 0,.bool false,yi k])):=by
 replace HK:Hid _:=HK;obtain⟨W3,hW4,q1,b2⟩:=cA w [.bool sa,.slice ao la ac,yi ea,.bool sb,.slice bo lb bc,yi eb] 27;replace hW4:Hid _:=hW4
 go_enter func5,ntmps5
 go_upto_region 1 with fail
 rw[hW4.out];clear hW4;obtain⟨c5,c6,c7,c8,c9,c10⟩:=q1.cs6
 go_wp2_with fail
 refine(HK.out _ b2).mono ?_;rintro zz w11 ⟨rfl,bb12⟩;have b13:=aa b2 bb12;clear q1 b2 bb12 HK c5 c6 c7 c8 c9 c10
 go_wp2
 go_ret3
 exact⟨rfl,b13⟩
theorem bracket_low (sa sb:Bool)(ao bo:Option Addr)(la lb ac bc:Nat)(ea eb:Int)(m:Int)(w:World)(hm:m<1)
  (HK:yH w 21 #[.agg #[.bool sa,.slice ao la ac,yi ea,.bool sb,.slice bo lb bc,yi eb]] (yi 0)):
  yC 5 #[.agg #[.bool sa,.slice ao la ac,yi ea,.bool sb,.slice bo lb bc,yi eb],yi m] w (yR w (.tuple #[yi 0,.bool false,yi 3])):=by
 replace HK:Hid _:=HK;obtain⟨W3,hW4,q1,b2⟩:=cA w [.bool sa,.slice ao la ac,yi ea,.bool sb,.slice bo lb bc,yi eb] 27;replace hW4:Hid _:=hW4
 go_enter func5,ntmps5
 go_upto_region 1 with fail
 rw[hW4.out];clear hW4;obtain⟨c5,c6,c7,c8,c9,c10⟩:=q1.cs6
 go_wp2_with fail
 refine(HK.out _ b2).mono ?_;rintro zz w11 ⟨rfl,bb12⟩;have b13:=aa b2 bb12;clear q1 b2 bb12 HK c5 c6 c7 c8 c9 c10
 go_wp2
 go_ret3
 exact⟨rfl,b13⟩
theorem bracket_high (sa sb:Bool)(ao bo:Option Addr)(la lb ac bc:Nat)(ea eb:Int)(m:Int)(w:World)(hm1: ¬m<1)(hm:4096<m)
  (HK:yH w 21 #[.agg #[.bool sa,.slice ao la ac,yi ea,.bool sb,.slice bo lb bc,yi eb]] (yi 0)):
  yC 5 #[.agg #[.bool sa,.slice ao la ac,yi ea,.bool sb,.slice bo lb bc,yi eb],yi m] w (yR w (.tuple #[yi 0,.bool false,yi 3])):=by
 replace HK:Hid _:=HK;obtain⟨W3,hW4,q1,b2⟩:=cA w [.bool sa,.slice ao la ac,yi ea,.bool sb,.slice bo lb bc,yi eb] 27;replace hW4:Hid _:=hW4
 go_enter func5,ntmps5
 go_upto_region 1 with fail
 rw[hW4.out];clear hW4;obtain⟨c5,c6,c7,c8,c9,c10⟩:=q1.cs6
 go_wp2_with fail
 refine(HK.out _ b2).mono ?_;rintro zz w11 ⟨rfl,bb12⟩;have b13:=aa b2 bb12;clear q1 b2 bb12 HK c5 c6 c7 c8 c9 c10
 go_wp2
 go_ret3
 exact⟨rfl,b13⟩
theorem sgn_posB {z:Int}:0<sgn z↔0<z:=by
 unfold sgn
 split
 ·omega
 ·split<;>constructor<;>intro h<;>omega
end Go.Proofs.YtiakgfmlpdfhdaaGreatDoor

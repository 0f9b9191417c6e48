/-
  Texts laid together: Dz, Ab3, Aw0, Cv0, Cv1, Cv2, Cv3, Pa3, Rb3, Bl1, Bl6, Bm1, Bs1, Inv, BlN, BlM.
-/
import Derived.Test.YtpainhklfoaniaaGreatDoorChecked
import Derived.Test.YtpainhklfoaniaaGreatDoorSc48
set_option maxRecDepth 100000
set_option maxHeartbeats 3200000
namespace Go.Proofs.YtpainhklfoaniaaGreatDoor
open _root_.Go.Proofs.Tryz
def dV (a:ak):ak:=⟨!a.s,a.n,a.e⟩
open Go.RowKit
abbrev yEL (c:Int)(g:Bool)(t:ak)(o:Option Addr)(k:Nat):List Value:=[.int .i64 c,.bool g,.bool t.s,.slice o (Dg.dg 65536 t.n).length k,.int .i64 t.e]
abbrev yEV (c:Int)(g:Bool)(t:ak)(o:Option Addr)(k:Nat):Value:= .agg #[.int .i64 c,.bool g,.bool t.s,.slice o (Dg.dg 65536 t.n).length k,.int .i64 t.e]
abbrev yEA (c:Int)(g:Bool)(t:ak)(o:Option Addr)(k:Nat):Array Value:= #[.int .i64 c,.bool g,.bool t.s,.slice o (Dg.dg 65536 t.n).length k,.int .i64 t.e]
abbrev yML (t:ak)(o:Option Addr)(k:Nat):List Value:=[.bool t.s,.slice o (Dg.dg 65536 t.n).length k,.int .i64 t.e]
abbrev yMV (t:ak)(o:Option Addr)(k:Nat):Value:= .agg #[.bool t.s,.slice o (Dg.dg 65536 t.n).length k,.int .i64 t.e]
abbrev yMA (t:ak)(o:Option Addr)(k:Nat):Array Value:= #[.bool t.s,.slice o (Dg.dg 65536 t.n).length k,.int .i64 t.e]
abbrev yXL (c:Int)(g:Bool)(t:ak)(o:Option Addr)(k:Nat)(d:Int)(h:Bool)(s:ak)(p:Option Addr)(m:Nat):List Value:=[.int .i64 c,.bool g,.bool t.s,.slice o (Dg.dg 65536 t.n).length k,.int .i64 t.e,.int .i64 d,.bool h,.bool s.s,.slice p (Dg.dg 65536 s.n).length m,.int .i64 s.e]
theorem afA {w:World}{b:Nat}{ty:TypeId}{z0 z1 z2:Value}(h:au w b ty [z0,z1,z2]):(w.cell? ⟨b,0,none⟩=some z0∧w.cell? ⟨b,1,none⟩=some z1∧w.cell? ⟨b,2,none⟩=some z2)∧w.frozen? ⟨b,0,none⟩=false∧w.frozen? ⟨b,1,none⟩=false∧w.frozen? ⟨b,2,none⟩=false:=
 ⟨⟨h.c 0 rfl,h.c 1 rfl,h.c 2 rfl⟩,h.f 0,h.f 1,h.f 2⟩
theorem wp_yield {P:Program}{op:Oper}{a:Act}{w:World}{K:Act→World→Prop}{Q:Exit→Act→World→Prop}(v:Value)(hv:(execOp a.eval op).run P w= .ok (.value v) w)(h:K (a.put op.dst v) w):op.wp P a w K Q:=by
 unfold Oper.wp;rw[hv];exact h
theorem fin43 {P:Program}{w0 w:World}{n b:Nat}{tv tx:TypeId}{z0 z1 z2 z3 y0 y1 y2:Value}{dv dx:TypeDesc}(hv:au w b tv [z0,z1,z2,z3])(hx:au w (b+1) tx [y0,y1,y2])(hb:Below n w0 w)(hn:n≤b)(huv:P.underlying tv=some dv)(hdv:dv.isRow=true)(hiv:(P.info? tv).map (·.size)=some 4)(hux:P.underlying tx=some dx)(hdx:dx.isRow=true)(hix:(P.info? tx).map (·.size)=some 3)
  (nv: ∀x∈[z0,z1,z2,z3],∀n:Int,x≠ .int .u32 n) (nx: ∀x∈[y0,y1,y2],∀n:Int,x≠ .int .u32 n) (v0 v1 v2 v3 x0 x1 x2:Value):
  (loadVar tv ⟨b,0,none⟩).run P (((((((w.setCell ⟨b,0,none⟩ v0).setCell ⟨b,1,none⟩ v1).setCell ⟨b,2,none⟩ v2).setCell ⟨b,3,none⟩ v3).setCell ⟨b+1,0,none⟩ x0).setCell ⟨b+1,1,none⟩ x1).setCell ⟨b+1,2,none⟩ x2)= .ok (.agg #[v0,v1,v2,v3]) (((((((w.setCell ⟨b,0,none⟩ v0).setCell ⟨b,1,none⟩ v1).setCell ⟨b,2,none⟩ v2).setCell ⟨b,3,none⟩ v3).setCell ⟨b+1,0,none⟩ x0).setCell ⟨b+1,1,none⟩ x1).setCell ⟨b+1,2,none⟩ x2)∧
  (loadVar tx ⟨b+1,0,none⟩).run P (((((((w.setCell ⟨b,0,none⟩ v0).setCell ⟨b,1,none⟩ v1).setCell ⟨b,2,none⟩ v2).setCell ⟨b,3,none⟩ v3).setCell ⟨b+1,0,none⟩ x0).setCell ⟨b+1,1,none⟩ x1).setCell ⟨b+1,2,none⟩ x2)= .ok (.agg #[x0,x1,x2]) (((((((w.setCell ⟨b,0,none⟩ v0).setCell ⟨b,1,none⟩ v1).setCell ⟨b,2,none⟩ v2).setCell ⟨b,3,none⟩ v3).setCell ⟨b+1,0,none⟩ x0).setCell ⟨b+1,1,none⟩ x1).setCell ⟨b+1,2,none⟩ x2)∧
  Below n w0 (((((((w.setCell ⟨b,0,none⟩ v0).setCell ⟨b,1,none⟩ v1).setCell ⟨b,2,none⟩ v2).setCell ⟨b,3,none⟩ v3).setCell ⟨b+1,0,none⟩ x0).setCell ⟨b+1,1,none⟩ x1).setCell ⟨b+1,2,none⟩ x2)∧
  ∀v zs,Rd w .u32 v zs→Rd (((((((w.setCell ⟨b,0,none⟩ v0).setCell ⟨b,1,none⟩ v1).setCell ⟨b,2,none⟩ v2).setCell ⟨b,3,none⟩ v3).setCell ⟨b+1,0,none⟩ x0).setCell ⟨b+1,1,none⟩ x1).setCell ⟨b+1,2,none⟩ x2) .u32 v zs:=by
 have n1:b+1≠b:=by omega
 have n2:b≠b+1:=by omega
 have cX0:=((((hx.off n2 0 v0).off n2 1 v1).off n2 2 v2).off n2 3 v3);have cV:=((((((hv.set 0 v0).set 1 v1).set 2 v2).set 3 v3).off n1 0 x0).off n1 1 x1).off n1 2 x2;have cX:=((cX0.set 0 x0).set 1 x1).set 2 x2;have bu1:=(((ag w b 0 v0).trans (ag _ b 1 v1)).trans (ag _ b 2 v2)).trans (ag _ b 3 v3);have bu2:=((ag ((((w.setCell ⟨b,0,none⟩ v0).setCell ⟨b,1,none⟩ v1).setCell ⟨b,2,none⟩ v2).setCell ⟨b,3,none⟩ v3) (b+1) 0 x0).trans (ag _ (b+1) 1 x1)).trans (ag _ (b+1) 2 x2);refine⟨run_loadVar_mid (P:=P) _ b 0 tv [v0,v1,v2,v3] _ cV.range huv hdv hiv,run_loadVar_mid (P:=P) _ (b+1) 0 tx [x0,x1,x2] _ cX.range hux hdx hix,bu2.below (bu1.below hb hn) (by omega),fun v zs r=> ?_⟩
 have r1:=bu1.rd r (aX r hv nv);exact bu2.rd r1 (aX r1 cX0 nx)
theorem wratio_any (x:ak)(xo:Option Addr)(xc:Nat)(w:World):
  yC 41 #[yDV x xo xc] w fun z w'=> ∃eo ec,z= .returned (yrV x.s (yT xo x.n xc) (.slice eo 1 ec) x.e)∧Rd w' .u32 (.slice eo 1 ec) [1]∧yB w w':=by
 obtain⟨W,hW,q1,q2,b⟩:=iG w (yDL x xo xc) 86 (yrL false yN yN 0) 91;replace hW:Hid _:=hW
 go_enter func41,ntmps41
 go_upto_region 1 with fail
 rw[hW.out];clear hW;have al:=af W (.cells #[.int .u32 1] 108);have hn:=ah W [.int .u32 1] 108;have hlt:=q2.lt;have q3:=q2.l al;have b3:=aa b al;have hf:=afz (P:=Tryz.prog) q3 b3 (by omega) underlying91 rfl (by kernel_rfl) (.bool x.s) (yT xo x.n xc) (.slice (some ⟨W.heap.size,0,none⟩) 1 1) (yi x.e);have HH:Hid (_∧_∧_):=⟨hf.1,hf.2.2.loc hn (by omega),hf.2.1⟩;obtain⟨c0,c1,c2⟩:=q1.cs3;obtain⟨d0,d1,d2⟩:=(q1.l al).cs3;obtain⟨⟨z0,z1,z2,z3⟩,y0,y1,y2,y3⟩:=afB q3;clear hf q1 q2 q3 b b3 al hn hlt
 go_wp2
 obtain⟨hl,hq,bR⟩:=HH.out;exact bodyPost_ret (br results41 rfl hl) rfl ⟨_,_,rfl,aa0 (hq.c 0 rfl),bR⟩
def CRes (w:World)(c:Int)(g:Bool)(m:Nat)(p:Int)(t:ak)(er:Int)(z:Ending)(w':World):Prop:=
 ∃v x,z= .returned (.tuple #[yvV c g v p,ydV t.s x t.e,yi er])∧Rd w' .u32 v (Dg.dg 4294967296 m)∧Rd w' .u32 x (Dg.dg 4294967296 t.n)∧yB w w'
theorem cread_err (n wy c p er:Int)(g:Bool)(m:Nat)(t:ak)(s:ByteArray)(w:World)(he: ¬er=0)(HR: ∀w1,yB w w1→yC 74 #[yi n,.string s] w1 (Ys w1 c g m p t er)):
  yC 39 #[yi n,.string s,yi wy] w (CRes w 0 false 0 0 ⟨false,0,0⟩ er):=by
 replace HR:Hid _:=HR;obtain⟨W4,hW5,q1,q2,b3⟩:=iG w (yvL 0 false yN 0) 77 (ydL false yN 0) 86;replace hW5:Hid _:=hW5
 go_enter func39,ntmps39
 go_upto_region 1 with fail
 rw[hW5.out];clear hW5
 go_wp2_with fail
 refine(HR.out _ b3).mono ?_;rintro zz w6 ⟨v18,v29,rfl,r110,r211,-,bb7⟩;have q12:=q1.l bb7;have q13:=q2.l bb7;have b14:=aa b3 bb7;obtain⟨vo,vc,hv⟩:=r110.shape;subst hv;obtain⟨xo,xc,hv⟩:=r211.shape;subst hv;clear q1 q2 b3 bb7 HR;obtain⟨W17,hW16,q18,q19,al15⟩:=iG w6 (yvL c g (yT vo m vc) p) 77 (yDL t xo xc) 86;replace hW16:Hid _:=hW16;have hl20:w.heap.size≤w6.heap.size:=b14.size;have hl21:=q13.lt;have q22:=q12.l al15;have q23:=q13.l al15;have r24:=r110.l al15;have r25:=r211.l al15;have b26:=aa b14 al15;clear q12 q13 r110 r211 b14 al15 q18 q19
 go_upto_region 2 with fail
 rw[hW16.out];clear hW16;have hf:=fin43 (P:=Tryz.prog) q22 q23 b26 (by omega) underlying77 rfl (by kernel_rfl) underlying86 rfl (by kernel_rfl) (by simp) (by simp) (yi 0) (.bool false) yN (yi 0) (.bool false) yN (yi 0);have HH:Hid (_∧_∧_):=⟨hf.1,hf.2.1,hf.2.2.1⟩;obtain⟨⟨z0,z1,z2,z3⟩,y0,y1,y2,y3⟩:=afB q22;obtain⟨⟨u0,u1,u2⟩,k0,k1,k2⟩:=afA q23;clear hf q22 q23 r24 r25 b26
 go_wp2
 obtain⟨hl1,hl2,bR⟩:=HH.out;exact bodyPost_ret (kg results39 rfl rfl rfl hl1 hl2) rfl ⟨_,_,rfl,aN _ _,aN _ _,bR⟩
theorem cread_low (n wy c p:Int)(g:Bool)(m:Nat)(t:ak)(s:ByteArray)(w:World)(hy:wy<1)(HR: ∀w1,yB w w1→yC 74 #[yi n,.string s] w1 (Ys w1 c g m p t 0)):
  yC 39 #[yi n,.string s,yi wy] w (CRes w 0 false 0 0 ⟨false,0,0⟩ 6):=by
 replace HR:Hid _:=HR;obtain⟨W4,hW5,q1,q2,b3⟩:=iG w (yvL 0 false yN 0) 77 (ydL false yN 0) 86;replace hW5:Hid _:=hW5
 go_enter func39,ntmps39
 go_upto_region 1 with fail
 rw[hW5.out];clear hW5
 go_wp2_with fail
 refine(HR.out _ b3).mono ?_;rintro zz w6 ⟨v18,v29,rfl,r110,r211,-,bb7⟩;have q12:=q1.l bb7;have q13:=q2.l bb7;have b14:=aa b3 bb7;obtain⟨vo,vc,hv⟩:=r110.shape;subst hv;obtain⟨xo,xc,hv⟩:=r211.shape;subst hv;clear q1 q2 b3 bb7 HR;obtain⟨W17,hW16,q18,q19,al15⟩:=iG w6 (yvL c g (yT vo m vc) p) 77 (yDL t xo xc) 86;replace hW16:Hid _:=hW16;have hl20:w.heap.size≤w6.heap.size:=b14.size;have hl21:=q13.lt;have q22:=q12.l al15;have q23:=q13.l al15;have r24:=r110.l al15;have r25:=r211.l al15;have b26:=aa b14 al15;clear q12 q13 r110 r211 b14 al15 q18 q19
 go_upto_region 2 with fail
 rw[hW16.out];clear hW16;have hf:=fin43 (P:=Tryz.prog) q22 q23 b26 (by omega) underlying77 rfl (by kernel_rfl) underlying86 rfl (by kernel_rfl) (by simp) (by simp) (yi 0) (.bool false) yN (yi 0) (.bool false) yN (yi 0);have HH:Hid (_∧_∧_):=⟨hf.1,hf.2.1,hf.2.2.1⟩;obtain⟨⟨z0,z1,z2,z3⟩,y0,y1,y2,y3⟩:=afB q22;obtain⟨⟨u0,u1,u2⟩,k0,k1,k2⟩:=afA q23;clear hf q22 q23 r24 r25 b26
 go_wp2
 obtain⟨hl1,hl2,bR⟩:=HH.out;exact bodyPost_ret (kg results39 rfl rfl rfl hl1 hl2) rfl ⟨_,_,rfl,aN _ _,aN _ _,bR⟩
theorem cread_high (n wy c p:Int)(g:Bool)(m:Nat)(t:ak)(s:ByteArray)(w:World)(hy: ¬wy<1)(hz:5<wy)(HR: ∀w1,yB w w1→yC 74 #[yi n,.string s] w1 (Ys w1 c g m p t 0)):
  yC 39 #[yi n,.string s,yi wy] w (CRes w 0 false 0 0 ⟨false,0,0⟩ 6):=by
 replace HR:Hid _:=HR;obtain⟨W4,hW5,q1,q2,b3⟩:=iG w (yvL 0 false yN 0) 77 (ydL false yN 0) 86;replace hW5:Hid _:=hW5
 go_enter func39,ntmps39
 go_upto_region 1 with fail
 rw[hW5.out];clear hW5
 go_wp2_with fail
 refine(HR.out _ b3).mono ?_;rintro zz w6 ⟨v18,v29,rfl,r110,r211,-,bb7⟩;have q12:=q1.l bb7;have q13:=q2.l bb7;have b14:=aa b3 bb7;obtain⟨vo,vc,hv⟩:=r110.shape;subst hv;obtain⟨xo,xc,hv⟩:=r211.shape;subst hv;clear q1 q2 b3 bb7 HR;obtain⟨W17,hW16,q18,q19,al15⟩:=iG w6 (yvL c g (yT vo m vc) p) 77 (yDL t xo xc) 86;replace hW16:Hid _:=hW16;have hl20:w.heap.size≤w6.heap.size:=b14.size;have hl21:=q13.lt;have q22:=q12.l al15;have q23:=q13.l al15;have r24:=r110.l al15;have r25:=r211.l al15;have b26:=aa b14 al15;clear q12 q13 r110 r211 b14 al15 q18 q19
 go_upto_region 2 with fail
 rw[hW16.out];clear hW16;have hf:=fin43 (P:=Tryz.prog) q22 q23 b26 (by omega) underlying77 rfl (by kernel_rfl) underlying86 rfl (by kernel_rfl) (by simp) (by simp) (yi 0) (.bool false) yN (yi 0) (.bool false) yN (yi 0);have HH:Hid (_∧_∧_):=⟨hf.1,hf.2.1,hf.2.2.1⟩;obtain⟨⟨z0,z1,z2,z3⟩,y0,y1,y2,y3⟩:=afB q22;obtain⟨⟨u0,u1,u2⟩,k0,k1,k2⟩:=afA q23;clear hf q22 q23 r24 r25 b26
 go_wp2
 obtain⟨hl1,hl2,bR⟩:=HH.out;exact bodyPost_ret (kg results39 rfl rfl rfl hl1 hl2) rfl ⟨_,_,rfl,aN _ _,aN _ _,bR⟩
theorem cread_ok (n wy c p:Int)(g:Bool)(m:Nat)(t:ak)(s:ByteArray)(w:World)(hy: ¬wy<1)(hz: ¬5<wy)(HR: ∀w1,yB w w1→yC 74 #[yi n,.string s] w1 (Ys w1 c g m p t 0)):
  yC 39 #[yi n,.string s,yi wy] w (CRes w c g m p t 0):=by
 replace HR:Hid _:=HR;obtain⟨W4,hW5,q1,q2,b3⟩:=iG w (yvL 0 false yN 0) 77 (ydL false yN 0) 86;replace hW5:Hid _:=hW5
 go_enter func39,ntmps39
 go_upto_region 1 with fail
 rw[hW5.out];clear hW5
 go_wp2_with fail
 refine(HR.out _ b3).mono ?_;rintro zz w6 ⟨v18,v29,rfl,r110,r211,-,bb7⟩;have q12:=q1.l bb7;have q13:=q2.l bb7;have b14:=aa b3 bb7;obtain⟨vo,vc,hv⟩:=r110.shape;subst hv;obtain⟨xo,xc,hv⟩:=r211.shape;subst hv;clear q1 q2 b3 bb7 HR;obtain⟨W17,hW16,q18,q19,al15⟩:=iG w6 (yvL c g (yT vo m vc) p) 77 (yDL t xo xc) 86;replace hW16:Hid _:=hW16;have hl20:w.heap.size≤w6.heap.size:=b14.size;have hl21:=q13.lt;have q22:=q12.l al15;have q23:=q13.l al15;have r24:=r110.l al15;have r25:=r211.l al15;have b26:=aa b14 al15;clear q12 q13 r110 r211 b14 al15
 go_upto_region 2 with fail
 rw[hW16.out];clear hW16
 go_upto_region 6 with fail
 have bW27:yB W17 W17.drew:=(Below.refl _ _).drew;have q28:=q22.l bW27;have q29:=q23.l bW27;have q30:=q18.l bW27;have q31:=q19.l bW27;have r32:=r24.l bW27;have r33:=r25.l bW27;have b34:=aa b26 bW27;clear q22 q23 q18 q19 r24 r25 b26 bW27;refine wp_region_held_drew (S:=fun wq=>au wq w6.heap.size 77 (yvL c g (yT vo m vc) p)∧au wq (w6.heap.size+1) 86 (yDL t xo xc)) (by kernel_rfl) ⟨q30,q31⟩ (fun hS0=> ?_)
 generalize W17.drew=WD35 at q28 q29 q30 q31 r32 r33 b34 hS0⊢;refine tq 0 (yvV c g (yT vo m vc) p) rfl (fun _ hw0=>fy 77 (.tmp 9) rfl w6.heap.size 0 (by kernel_rfl) _ _ hw0.1.range underlying77 rfl (by kernel_rfl)) hS0 ?_
 refine tq 1 (yDV t xo xc) rfl (fun _ hw0=>fy 86 (.tmp 10) rfl (w6.heap.size+1) 0 (by kernel_rfl) _ _ hw0.2.range underlying86 rfl (by kernel_rfl)) hS0 ?_
 refine wpAnyH_ready (rs:=[2]) (by kernel_rfl) (by simp) ?_;refine AllReadyH.cons rfl (fun K hK=> ?_) AllReadyH.nil
 have bu:But w.heap.size WD35 (WD35.setCells w.heap.size 0 (yvL c g (yT vo m vc) p)):=de _ _ _ _;have hth:WD35.there w.heap.size 0 4:=dD q28;have q36:au (WD35.setCells w.heap.size 0 (yvL c g (yT vo m vc) p)) w.heap.size 77 (yvL c g (yT vo m vc) p):=q28.sets _ rfl;have r37:=bu.rd r32 (aX r32 q28 (by simp));have r38:=bu.rd r33 (aX r33 q28 (by simp));have q39:=bu.loc q29 (by omega);have q40:=bu.loc q30 (by omega);have q41:=bu.loc q31 (by omega);have b42:=bu.below b34 (by omega);rw[if_pos (by kernel_rfl)];refine wp_store_mid 77 (.tmp 6) (.tmp 32) rfl w.heap.size 0 (yvA c g (yT vo m vc) p) (by kernel_rfl) (by kernel_rfl) hth (by kernel_rfl) (by simp[Value.oneCell']) ?_;refine hK.out _ _ ⟨q40,q41⟩ (fun hS43=> ?_)
 clear hK K;clear q28 r32 r33 q29 q30 q31 b34 bu hth;refine wpAnyH_ready (rs:=[3]) (by kernel_rfl) (by simp) ?_;refine AllReadyH.cons rfl (fun K hK=> ?_) AllReadyH.nil
 have bu:But (w.heap.size+1) (WD35.setCells w.heap.size 0 (yvL c g (yT vo m vc) p)) ((WD35.setCells w.heap.size 0 (yvL c g (yT vo m vc) p)).setCells (w.heap.size+1) 0 (yDL t xo xc)):=de _ _ _ _;have hth:(WD35.setCells w.heap.size 0 (yvL c g (yT vo m vc) p)).there (w.heap.size+1) 0 3:=dD q39;have q44:au ((WD35.setCells w.heap.size 0 (yvL c g (yT vo m vc) p)).setCells (w.heap.size+1) 0 (yDL t xo xc)) (w.heap.size+1) 86 (yDL t xo xc):=q39.sets _ rfl;have r45:=bu.rd r37 (aX r37 q39 (by simp));have r46:=bu.rd r38 (aX r38 q39 (by simp));have q47:=bu.loc q36 (by omega);have q48:=bu.loc q40 (by omega);have q49:=bu.loc q41 (by omega);have b50:=bu.below b42 (by omega);rw[if_pos (by kernel_rfl)];refine wp_store_mid 86 (.tmp 7) (.tmp 33) rfl (w.heap.size+1) 0 (yDA t xo xc) (by kernel_rfl) (by kernel_rfl) hth (by kernel_rfl) (by simp[Value.oneCell']) ?_;refine hK.out _ _ ⟨q48,q49⟩ (fun hS51=> ?_)
 clear hK K;clear q39 r37 r38 q36 q40 q41 b42 bu hth;refine tq 4 (yi 0) rfl (fun _ _=>by kernel_rfl) hS51 ?_
 refine wpAnyH_done (by kernel_rfl) ?_ _;clear hS0 hS43 hS51;change Exit.then _ _ _ _ (World.setCells (WD35.setCells w.heap.size 0 (yvL c g (yT vo m vc) p)) (w.heap.size+1) 0 (yDL t xo xc));generalize World.setCells (WD35.setCells w.heap.size 0 (yvL c g (yT vo m vc) p)) (w.heap.size+1) 0 (yDL t xo xc)=W52 at q47 q44 q48 q49 r45 r46 b50⊢;simp only[Act.put,List.getElem_toArray,List.getElem_cons_succ,List.getElem_cons_zero,List.setIfInBounds_toArray,List.set_cons_zero,List.set_cons_succ];have hl1:=run_loadVar_mid (P:=Tryz.prog) _ (w.heap.size) 0 77 (yvL c g (yT vo m vc) p) _ q47.range underlying77 rfl (by kernel_rfl);have hl2:=run_loadVar_mid (P:=Tryz.prog) _ (w.heap.size+1) 0 86 (yDL t xo xc) _ q44.range underlying86 rfl (by kernel_rfl)
 go_wp2
 exact bodyPost_ret (kg results39 rfl rfl rfl hl1 hl2) rfl ⟨_,_,rfl,r45,r46,b50⟩
theorem moved_zt (fm p:Int)(m:Nat)(vo:Option Addr)(vc:Nat)(w:World):
  yC 42 #[yvV 1 true (yT vo m vc) p,yi fm] w (B6 w 1 (fm==1) 0 0 0):=by
 obtain⟨W4,hW5,q1,q2,b3⟩:=iG w (yvL 1 true (yT vo m vc) p) 77 (yvL 0 false yN 0) 77;replace hW5:Hid _:=hW5
 go_enter func42,ntmps42
 go_upto_region 1 with fail
 rw[hW5.out];clear hW5;have c6:=q1.c 0 rfl;have c7:=q1.c 1 rfl;have hf:=afz (P:=Tryz.prog) q2 b3 (by omega) underlying77 rfl (by kernel_rfl) (yi 1) (.bool (fm==1)) yN (yi 0);have HH:Hid (_∧_):=⟨hf.1,hf.2.1⟩;obtain⟨⟨z0,z1,z2,z3⟩,y0,y1,y2,y3⟩:=afB q2;clear hf q1 q2 b3
 go_wp2
 obtain⟨hl,bR⟩:=HH.out;exact bodyPost_ret (aj results42 rfl rfl hl) rfl ⟨_,rfl,aN _ _,bR⟩
theorem moved_zf (fm p:Int)(m:Nat)(vo:Option Addr)(vc:Nat)(w:World):
  yC 42 #[yvV 1 false (yT vo m vc) p,yi fm] w (B6 w 1 false 0 0 0):=by
 obtain⟨W4,hW5,q1,q2,b3⟩:=iG w (yvL 1 false (yT vo m vc) p) 77 (yvL 0 false yN 0) 77;replace hW5:Hid _:=hW5
 go_enter func42,ntmps42
 go_upto_region 1 with fail
 rw[hW5.out];clear hW5;have c6:=q1.c 0 rfl;have c7:=q1.c 1 rfl;have hf:=afz (P:=Tryz.prog) q2 b3 (by omega) underlying77 rfl (by kernel_rfl) (yi 1) (.bool false) yN (yi 0);have HH:Hid (_∧_):=⟨hf.1,hf.2.1⟩;obtain⟨⟨z0,z1,z2,z3⟩,y0,y1,y2,y3⟩:=afB q2;clear hf q1 q2 b3
 go_wp2
 obtain⟨hl,bR⟩:=HH.out;exact bodyPost_ret (aj results42 rfl rfl hl) rfl ⟨_,rfl,aN _ _,bR⟩
theorem moved_same (c p:Int)(g:Bool)(m:Nat)(vo:Option Addr)(vc:Nat)(w:World)(h1:(c==1)=false)(h5: ¬c=5)(rv:Rd w .u32 (yT vo m vc) (Dg.dg 4294967296 m)):
  yC 42 #[yvV c g (yT vo m vc) p,yi 1] w (B6 w c g m p 0):=by
 obtain⟨W4,hW5,q1,q2,b3⟩:=iG w (yvL c g (yT vo m vc) p) 77 (yvL 0 false yN 0) 77;replace hW5:Hid _:=hW5;have r6:=rv.l b3;clear rv
 go_enter func42,ntmps42
 go_upto_region 1 with fail
 rw[hW5.out];clear hW5;obtain⟨c7,c8,c9,c10⟩:=q1.cs4;have hf:=afz (P:=Tryz.prog) q2 b3 (by omega) underlying77 rfl (by kernel_rfl) (yi c) (.bool g) (yT vo m vc) (yi p);have HH:Hid (_∧_∧_):=⟨hf.1,hf.2.2.rd r6 (aX r6 q2 (by simp)),hf.2.1⟩;obtain⟨⟨z0,z1,z2,z3⟩,y0,y1,y2,y3⟩:=afB q2;clear hf q1 q2 r6 b3
 go_wp2
 obtain⟨hl,rRv,bR⟩:=HH.out;exact bodyPost_ret (aj results42 rfl rfl hl) rfl ⟨_,rfl,rRv,bR⟩
theorem moved_5 (nn:Int)(fm p:Int)(g:Bool)(m:Nat)(vo:Option Addr)(vc:Nat)(w:World)(HN:yJ 78 #[yi fm] (yi nn)):
  yC 42 #[yvV 5 g (yT vo m vc) p,yi fm] w (B6 w nn false 0 0 16):=by
 replace HN:Hid _:=HN;obtain⟨W4,hW5,q1,q2,b3⟩:=iG w (yvL 5 g (yT vo m vc) p) 77 (yvL 0 false yN 0) 77;replace hW5:Hid _:=hW5
 go_enter func42,ntmps42
 go_upto_region 1 with fail
 rw[hW5.out];clear hW5;have c6:=q1.c 0 rfl
 go_wp2_with fail
 refine(HN.out _).mono ?_;rintro zz w7 ⟨rfl,bb8⟩;have q9:=q2.l bb8;have b10:=aa b3 bb8;clear q1 q2 b3 bb8 HN c6;have hf:=afz (P:=Tryz.prog) q9 b10 (by omega) underlying77 rfl (by kernel_rfl) (yi nn) (.bool false) yN (yi 0);have HH:Hid (_∧_):=⟨hf.1,hf.2.1⟩;obtain⟨⟨z0,z1,z2,z3⟩,y0,y1,y2,y3⟩:=afB q9;clear hf q9 b10
 go_wp2
 obtain⟨hl,bR⟩:=HH.out;exact bodyPost_ret (aj results42 rfl rfl hl) rfl ⟨_,rfl,aN _ _,bR⟩
theorem moved_no (nn:Int)(c fm p:Int)(g:Bool)(m:Nat)(vo:Option Addr)(vc:Nat)(w:World)(h1:(c==1)=false)(h5: ¬c=5)(hf:(fm==1)=false)(HN:yJ 78 #[yi fm] (yi nn)):
  yC 42 #[yvV c g (yT vo m vc) p,yi fm] w (B6 w nn false 0 0 16):=by
 replace HN:Hid _:=HN;obtain⟨W4,hW5,q1,q2,b3⟩:=iG w (yvL c g (yT vo m vc) p) 77 (yvL 0 false yN 0) 77;replace hW5:Hid _:=hW5
 go_enter func42,ntmps42
 go_upto_region 1 with fail
 rw[hW5.out];clear hW5;have c6:=q1.c 0 rfl
 go_wp2_with fail
 refine(HN.out _).mono ?_;rintro zz w7 ⟨rfl,bb8⟩;have q9:=q2.l bb8;have b10:=aa b3 bb8;clear q1 q2 b3 bb8 HN c6;have hf:=afz (P:=Tryz.prog) q9 b10 (by omega) underlying77 rfl (by kernel_rfl) (yi nn) (.bool false) yN (yi 0);have HH:Hid (_∧_):=⟨hf.1,hf.2.1⟩;obtain⟨⟨z0,z1,z2,z3⟩,y0,y1,y2,y3⟩:=afB q9;clear hf q9 b10
 go_wp2
 obtain⟨hl,bR⟩:=HH.out;exact bodyPost_ret (aj results42 rfl rfl hl) rfl ⟨_,rfl,aN _ _,bR⟩
theorem convert_none (n k wy:Int)(s:ByteArray)(w:World)(HF:yJ 38 #[yi k] (yi 0)):
  yC 9 #[yi n,.string s,yi k,yi wy] w (yR w (.tuple #[.string ⟨#[]⟩,yi 0,yi 6])):=by
 replace HF:Hid _:=HF
 go_enter func9,ntmps9
 have b0:=Below.refl w.heap.size w
 go_wp2_with fail
 refine(HF.out _).mono ?_;rintro zz w1 ⟨rfl,bb2⟩;have b3:=aa b0 bb2;clear b0 bb2 HF
 go_wp2
 go_ret3
 exact⟨by simp,b3⟩
theorem convert_err (fm c p er:Int)(g:Bool)(m:Nat)(t:ak)(n k wy:Int)(s:ByteArray)(w:World)(hf:(fm==0)=false)(he: ¬er=0)(HF:yJ 38 #[yi k] (yi fm))
  (HQ: ∀w1,yB w w1→yC 39 #[yi n,.string s,yi wy] w1 (CRes w1 c g m p t er)):
  yC 9 #[yi n,.string s,yi k,yi wy] w (yR w (.tuple #[.string ⟨#[]⟩,yi 0,yi er])):=by
 replace HF:Hid _:=HF;replace HQ:Hid _:=HQ
 go_enter func9,ntmps9
 have b0:=Below.refl w.heap.size w
 go_wp2_with fail
 refine(HF.out _).mono ?_;rintro zz w1 ⟨rfl,bb2⟩;have b3:=aa b0 bb2;clear b0 bb2 HF
 go_wp2_with fail
 refine(HQ.out _ b3).mono ?_;rintro zz w4 ⟨v16,v27,rfl,r18,r29,bb5⟩;have b10:=aa b3 bb5;obtain⟨vo,vc,hv⟩:=r18.shape;subst hv;obtain⟨xo,xc,hv⟩:=r29.shape;subst hv;clear b3 bb5 HQ;obtain⟨W13,hW12,q14,q15,al11⟩:=iG w4 (yvL c g (yT vo m vc) p) 77 (yDL t xo xc) 86;replace hW12:Hid _:=hW12;have hl16:w.heap.size≤w4.heap.size:=b10.size;have b17:=aa b10 al11;clear r18 r29 b10 al11 q14 q15
 go_upto_region 4 with fail
 rw[hW12.out];clear hW12
 go_wp2
 go_ret3
 exact⟨by simp,b17⟩
theorem convert_num (fm p f1 e1:Int)(st:ByteArray)(g:Bool)(m:Nat)(t:ak)(n k wy:Int)(s:ByteArray)(w:World)(hf:(fm==0)=false)(HF:yJ 38 #[yi k] (yi fm))
  (HQ: ∀w1,yB w w1→yC 39 #[yi n,.string s,yi wy] w1 (CRes w1 2 g m p t 0))
  (HT: ∀xo xc w1,yC 41 #[yDV t xo xc] w1 fun z w'=> ∃eo ec,z= .returned (yrV t.s (yT xo t.n xc) (.slice eo 1 ec) t.e)∧Rd w' .u32 (.slice eo 1 ec) [1]∧yB w1 w')
  (HA: ∀xo xc eo ec w1,yB w w1→Rd w1 .u32 (yT xo t.n xc) (Dg.dg 4294967296 t.n)→Rd w1 .u32 (.slice eo 1 ec) [1]→yC 40 #[yi k,yrV t.s (yT xo t.n xc) (.slice eo 1 ec) t.e,yi wy] w1 (yR w1 (.tuple #[.string st,yi f1,yi e1]))):
  yC 9 #[yi n,.string s,yi k,yi wy] w (yR w (.tuple #[.string st,yi f1,yi e1])):=by
 replace HF:Hid _:=HF;replace HQ:Hid _:=HQ;replace HT:Hid _:=HT;replace HA:Hid _:=HA
 go_enter func9,ntmps9
 have b0:=Below.refl w.heap.size w
 go_wp2_with fail
 refine(HF.out _).mono ?_;rintro zz w1 ⟨rfl,bb2⟩;have b3:=aa b0 bb2;clear b0 bb2 HF
 go_wp2_with fail
 refine(HQ.out _ b3).mono ?_;rintro zz w4 ⟨v16,v27,rfl,r18,r29,bb5⟩;have b10:=aa b3 bb5;obtain⟨vo,vc,hv⟩:=r18.shape;subst hv;obtain⟨xo,xc,hv⟩:=r29.shape;subst hv;clear b3 bb5 HQ;obtain⟨W13,hW12,q14,q15,al11⟩:=iG w4 (yvL 2 g (yT vo m vc) p) 77 (yDL t xo xc) 86;replace hW12:Hid _:=hW12;have hl16:w.heap.size≤w4.heap.size:=b10.size;have r17:=r29.l al11;have b18:=aa b10 al11;clear r18 r29 b10 al11
 go_upto_region 4 with fail
 rw[hW12.out];clear hW12;have c19:=q14.c 0 rfl;obtain⟨c20,c21,c22⟩:=q15.cs3
 go_wp2_with fail
 refine(HT.out _ _ _).mono ?_;rintro zz w23 ⟨eo,ec,rfl,r125,bb24⟩;have r26:=r17.l bb24;have b27:=aa b18 bb24;clear q14 q15 r17 b18 bb24 HT c19 c20 c21 c22
 go_wp2_with fail
 refine(HA.out _ _ _ _ _ b27 r26 r125).mono ?_;rintro zz w28 ⟨rfl,bb29⟩;have b30:=aa b27 bb29;clear r26 r125 b27 bb29 HA
 go_wp2
 go_ret3
 exact⟨by simp,b30⟩
theorem convert_oth (fm c p c2 p2 fl:Int)(g2:Bool)(m2:Nat)(st:ByteArray)(g:Bool)(m:Nat)(t:ak)(n k wy:Int)(s:ByteArray)(w:World)(hf:(fm==0)=false)(hc:(c==2)=false)(HF:yJ 38 #[yi k] (yi fm))
  (HQ: ∀w1,yB w w1→yC 39 #[yi n,.string s,yi wy] w1 (CRes w1 c g m p t 0))
  (HM: ∀vo vc w1,yB w w1→Rd w1 .u32 (yT vo m vc) (Dg.dg 4294967296 m)→yC 42 #[yvV c g (yT vo m vc) p,yi fm] w1 (B6 w1 c2 g2 m2 p2 fl))
  (HE: ∀ao ac w1,yB w w1→Rd w1 .u32 (yT ao m2 ac) (Dg.dg 4294967296 m2)→yC 37 #[yi k,yvV c2 g2 (yT ao m2 ac) p2] w1 (yR w1 (.tuple #[.string st,yi 0]))):
  yC 9 #[yi n,.string s,yi k,yi wy] w (yR w (.tuple #[.string st,yi fl,yi 0])):=by
 replace HF:Hid _:=HF;replace HQ:Hid _:=HQ;replace HM:Hid _:=HM;replace HE:Hid _:=HE
 go_enter func9,ntmps9
 have b0:=Below.refl w.heap.size w
 go_wp2_with fail
 refine(HF.out _).mono ?_;rintro zz w1 ⟨rfl,bb2⟩;have b3:=aa b0 bb2;clear b0 bb2
 go_wp2_with fail
 refine(HQ.out _ b3).mono ?_;rintro zz w4 ⟨v16,v27,rfl,r18,r29,bb5⟩;have b10:=aa b3 bb5;obtain⟨vo,vc,hv⟩:=r18.shape;subst hv;obtain⟨xo,xc,hv⟩:=r29.shape;subst hv;clear b3 bb5 HQ;obtain⟨W13,hW12,q14,q15,al11⟩:=iG w4 (yvL c g (yT vo m vc) p) 77 (yDL t xo xc) 86;replace hW12:Hid _:=hW12;have hl16:w.heap.size≤w4.heap.size:=b10.size;have r17:=r18.l al11;have b18:=aa b10 al11;clear r18 r29 b10 al11 q15
 go_upto_region 4 with fail
 rw[hW12.out];clear hW12;have c19:=q14.c 0 rfl
 go_upto_region 8 with fail
 clear c19;have bW20:yB W13 W13.drew:=(Below.refl _ _).drew;have q21:=q14.l bW20;have r22:=r17.l bW20;have b23:=aa b18 bW20;clear q14 r17 b18 bW20;refine wp_region_held_drew (S:=fun _=>True) (by kernel_rfl) trivial (fun hS0=> ?_)
 generalize W13.drew=WD24 at q21 r22 b23 hS0⊢;refine tq 1 (yi k) rfl (fun _ _=>by kernel_rfl) hS0 ?_
 refine wpAnyH_ready (rs:=[0,2]) (by kernel_rfl) (by simp) ?_;refine AllReadyH.cons rfl (fun K hK=> ?_) (AllReadyH.cons rfl (fun K hK=> ?_) AllReadyH.nil)
 ·rw[if_pos (by kernel_rfl)]
  refine wp_yield (yvV c g (yT vo m vc) p) (fy 77 (.tmp 11) rfl w4.heap.size 0 (by kernel_rfl) _ _ q21.range underlying77 rfl (by kernel_rfl)) ?_;refine hK.out _ _ trivial (fun hS25=> ?_)
  clear hK K;refine wpAnyH_ready (rs:=[2]) (by kernel_rfl) (by simp) ?_;refine AllReadyH.cons rfl (fun K hK=> ?_) AllReadyH.nil
  go_simp
  refine(HF.out _).mono ?_;rintro zz w26 ⟨rfl,bb27⟩;have q28:=q21.l bb27;have r29:=r22.l bb27;have b30:=aa b23 bb27;clear q21 r22 b23 bb27;refine hK.out _ _ trivial (fun hS31=> ?_)
  clear hK K;refine wpAnyH_ready (rs:=[3]) (by kernel_rfl) (by simp) ?_;refine AllReadyH.cons rfl (fun K hK=> ?_) AllReadyH.nil
  go_simp
  refine(HM.out _ _ _ b30 r29).mono ?_;rintro zz w32 ⟨v134,rfl,r135,bb33⟩;have q36:=q28.l bb33;have b37:=aa b30 bb33;obtain⟨ao,ac,hv⟩:=r135.shape;subst hv;clear q28 r29 b30 bb33 HM;refine hK.out _ _ trivial (fun hS38=> ?_)
  clear hK K;refine tq 4 (.tuple #[yvV c2 g2 (yT ao m2 ac) p2,yi fl]) rfl (fun _ _=>by kernel_rfl) hS38 ?_
  refine tq 5 (yvV c2 g2 (yT ao m2 ac) p2) rfl (fun _ _=>by go_simp) hS38 ?_
  refine tq 6 (yi fl) rfl (fun _ _=>by go_simp) hS38 ?_
  refine wpAnyH_ready (rs:=[7]) (by kernel_rfl) (by simp) ?_;refine AllReadyH.cons rfl (fun K hK=> ?_) AllReadyH.nil
  have bu:But w4.heap.size w32 (w32.setCells w4.heap.size 0 (yvL c2 g2 (yT ao m2 ac) p2)):=de _ _ _ _;have hth:w32.there w4.heap.size 0 4:=dD q36;have q39:au (w32.setCells w4.heap.size 0 (yvL c2 g2 (yT ao m2 ac) p2)) w4.heap.size 77 (yvL c2 g2 (yT ao m2 ac) p2):=q36.sets _ rfl;have r40:=bu.rd r135 (aX r135 q36 (by simp));have b41:=bu.below b37 (by omega);rw[if_pos (by kernel_rfl)];refine wp_store_mid 77 (.tmp 11) (.tmp 46) rfl w4.heap.size 0 (yvA c2 g2 (yT ao m2 ac) p2) (by kernel_rfl) (by kernel_rfl) hth (by kernel_rfl) (by simp[Value.oneCell']) ?_;refine hK.out _ _ trivial (fun hS42=> ?_)
  clear hK K;clear q36 r135 b37 bu hth;refine tq 8 (yi fl) rfl (fun _ _=>by kernel_rfl) hS42 ?_
  refine wpAnyH_done (by kernel_rfl) ?_ _;clear hS0 hS25 hS31 hS38 hS42;change Exit.then _ _ _ _ (World.setCells w32 w4.heap.size 0 (yvL c2 g2 (yT ao m2 ac) p2));generalize World.setCells w32 w4.heap.size 0 (yvL c2 g2 (yT ao m2 ac) p2)=W43 at q39 r40 b41⊢;simp only[Act.put,List.getElem_toArray,List.getElem_cons_succ,List.getElem_cons_zero,List.setIfInBounds_toArray,List.set_cons_zero,List.set_cons_succ];obtain⟨c44,c45,c46,c47⟩:=q39.cs4
  go_wp2_with fail
  refine(HE.out _ _ _ b41 r40).mono ?_;rintro zz w48 ⟨rfl,bb49⟩;have b50:=aa b41 bb49;clear q39 r40 b41 bb49 HE c44 c45 c46 c47
  go_wp2
  go_ret3
  exact⟨by simp,b50⟩
 ·go_simp
  refine(HF.out _).mono ?_;rintro zz w25 ⟨rfl,bb26⟩;have q27:=q21.l bb26;have r28:=r22.l bb26;have b29:=aa b23 bb26;clear q21 r22 b23 bb26;refine hK.out _ _ trivial (fun hS30=> ?_)
  clear hK K;refine wpAnyH_ready (rs:=[0]) (by kernel_rfl) (by simp) ?_;refine AllReadyH.cons rfl (fun K hK=> ?_) AllReadyH.nil
  rw[if_pos (by kernel_rfl)];refine wp_yield (yvV c g (yT vo m vc) p) (fy 77 (.tmp 11) rfl w4.heap.size 0 (by kernel_rfl) _ _ q27.range underlying77 rfl (by kernel_rfl)) ?_;refine hK.out _ _ trivial (fun hS31=> ?_)
  clear hK K;refine wpAnyH_ready (rs:=[3]) (by kernel_rfl) (by simp) ?_;refine AllReadyH.cons rfl (fun K hK=> ?_) AllReadyH.nil
  go_simp
  refine(HM.out _ _ _ b29 r28).mono ?_;rintro zz w32 ⟨v134,rfl,r135,bb33⟩;have q36:=q27.l bb33;have b37:=aa b29 bb33;obtain⟨ao,ac,hv⟩:=r135.shape;subst hv;clear q27 r28 b29 bb33 HM;refine hK.out _ _ trivial (fun hS38=> ?_)
  clear hK K;refine tq 4 (.tuple #[yvV c2 g2 (yT ao m2 ac) p2,yi fl]) rfl (fun _ _=>by kernel_rfl) hS38 ?_
  refine tq 5 (yvV c2 g2 (yT ao m2 ac) p2) rfl (fun _ _=>by go_simp) hS38 ?_
  refine tq 6 (yi fl) rfl (fun _ _=>by go_simp) hS38 ?_
  refine wpAnyH_ready (rs:=[7]) (by kernel_rfl) (by simp) ?_;refine AllReadyH.cons rfl (fun K hK=> ?_) AllReadyH.nil
  have bu:But w4.heap.size w32 (w32.setCells w4.heap.size 0 (yvL c2 g2 (yT ao m2 ac) p2)):=de _ _ _ _;have hth:w32.there w4.heap.size 0 4:=dD q36;have q39:au (w32.setCells w4.heap.size 0 (yvL c2 g2 (yT ao m2 ac) p2)) w4.heap.size 77 (yvL c2 g2 (yT ao m2 ac) p2):=q36.sets _ rfl;have r40:=bu.rd r135 (aX r135 q36 (by simp));have b41:=bu.below b37 (by omega);rw[if_pos (by kernel_rfl)];refine wp_store_mid 77 (.tmp 11) (.tmp 46) rfl w4.heap.size 0 (yvA c2 g2 (yT ao m2 ac) p2) (by kernel_rfl) (by kernel_rfl) hth (by kernel_rfl) (by simp[Value.oneCell']) ?_;refine hK.out _ _ trivial (fun hS42=> ?_)
  clear hK K;clear q36 r135 b37 bu hth;refine tq 8 (yi fl) rfl (fun _ _=>by kernel_rfl) hS42 ?_
  refine wpAnyH_done (by kernel_rfl) ?_ _;clear hS0 hS30 hS31 hS38 hS42;change Exit.then _ _ _ _ (World.setCells w32 w4.heap.size 0 (yvL c2 g2 (yT ao m2 ac) p2));generalize World.setCells w32 w4.heap.size 0 (yvL c2 g2 (yT ao m2 ac) p2)=W43 at q39 r40 b41⊢;simp only[Act.put,List.getElem_toArray,List.getElem_cons_succ,List.getElem_cons_zero,List.setIfInBounds_toArray,List.set_cons_zero,List.set_cons_succ];obtain⟨c44,c45,c46,c47⟩:=q39.cs4
  go_wp2_with fail
  refine(HE.out _ _ _ b41 r40).mono ?_;rintro zz w48 ⟨rfl,bb49⟩;have b50:=aa b41 bb49;clear q39 r40 b41 bb49 HE c44 c45 c46 c47
  go_wp2
  go_ret3
  exact⟨by simp,b50⟩
theorem convert_bad (fm c p c2 p2 fl e1:Int)(g2:Bool)(m2:Nat)(st:ByteArray)(g:Bool)(m:Nat)(t:ak)(n k wy:Int)(s:ByteArray)(w:World)(hf:(fm==0)=false)(hc:(c==2)=false)(he: ¬e1=0)(HF:yJ 38 #[yi k] (yi fm))
  (HQ: ∀w1,yB w w1→yC 39 #[yi n,.string s,yi wy] w1 (CRes w1 c g m p t 0))
  (HM: ∀vo vc w1,yB w w1→Rd w1 .u32 (yT vo m vc) (Dg.dg 4294967296 m)→yC 42 #[yvV c g (yT vo m vc) p,yi fm] w1 (B6 w1 c2 g2 m2 p2 fl))
  (HE: ∀ao ac w1,yB w w1→Rd w1 .u32 (yT ao m2 ac) (Dg.dg 4294967296 m2)→yC 37 #[yi k,yvV c2 g2 (yT ao m2 ac) p2] w1 (yR w1 (.tuple #[.string st,yi e1]))):
  yC 9 #[yi n,.string s,yi k,yi wy] w (yR w (.tuple #[.string ⟨#[]⟩,yi 0,yi e1])):=by
 replace HF:Hid _:=HF;replace HQ:Hid _:=HQ;replace HM:Hid _:=HM;replace HE:Hid _:=HE
 go_enter func9,ntmps9
 have b0:=Below.refl w.heap.size w
 go_wp2_with fail
 refine(HF.out _).mono ?_;rintro zz w1 ⟨rfl,bb2⟩;have b3:=aa b0 bb2;clear b0 bb2
 go_wp2_with fail
 refine(HQ.out _ b3).mono ?_;rintro zz w4 ⟨v16,v27,rfl,r18,r29,bb5⟩;have b10:=aa b3 bb5;obtain⟨vo,vc,hv⟩:=r18.shape;subst hv;obtain⟨xo,xc,hv⟩:=r29.shape;subst hv;clear b3 bb5 HQ;obtain⟨W13,hW12,q14,q15,al11⟩:=iG w4 (yvL c g (yT vo m vc) p) 77 (yDL t xo xc) 86;replace hW12:Hid _:=hW12;have hl16:w.heap.size≤w4.heap.size:=b10.size;have r17:=r18.l al11;have b18:=aa b10 al11;clear r18 r29 b10 al11 q15
 go_upto_region 4 with fail
 rw[hW12.out];clear hW12;have c19:=q14.c 0 rfl
 go_upto_region 8 with fail
 clear c19;have bW20:yB W13 W13.drew:=(Below.refl _ _).drew;have q21:=q14.l bW20;have r22:=r17.l bW20;have b23:=aa b18 bW20;clear q14 r17 b18 bW20;refine wp_region_held_drew (S:=fun _=>True) (by kernel_rfl) trivial (fun hS0=> ?_)
 generalize W13.drew=WD24 at q21 r22 b23 hS0⊢;refine tq 1 (yi k) rfl (fun _ _=>by kernel_rfl) hS0 ?_
 refine wpAnyH_ready (rs:=[0,2]) (by kernel_rfl) (by simp) ?_;refine AllReadyH.cons rfl (fun K hK=> ?_) (AllReadyH.cons rfl (fun K hK=> ?_) AllReadyH.nil)
 ·rw[if_pos (by kernel_rfl)]
  refine wp_yield (yvV c g (yT vo m vc) p) (fy 77 (.tmp 11) rfl w4.heap.size 0 (by kernel_rfl) _ _ q21.range underlying77 rfl (by kernel_rfl)) ?_;refine hK.out _ _ trivial (fun hS25=> ?_)
  clear hK K;refine wpAnyH_ready (rs:=[2]) (by kernel_rfl) (by simp) ?_;refine AllReadyH.cons rfl (fun K hK=> ?_) AllReadyH.nil
  go_simp
  refine(HF.out _).mono ?_;rintro zz w26 ⟨rfl,bb27⟩;have q28:=q21.l bb27;have r29:=r22.l bb27;have b30:=aa b23 bb27;clear q21 r22 b23 bb27;refine hK.out _ _ trivial (fun hS31=> ?_)
  clear hK K;refine wpAnyH_ready (rs:=[3]) (by kernel_rfl) (by simp) ?_;refine AllReadyH.cons rfl (fun K hK=> ?_) AllReadyH.nil
  go_simp
  refine(HM.out _ _ _ b30 r29).mono ?_;rintro zz w32 ⟨v134,rfl,r135,bb33⟩;have q36:=q28.l bb33;have b37:=aa b30 bb33;obtain⟨ao,ac,hv⟩:=r135.shape;subst hv;clear q28 r29 b30 bb33 HM;refine hK.out _ _ trivial (fun hS38=> ?_)
  clear hK K;refine tq 4 (.tuple #[yvV c2 g2 (yT ao m2 ac) p2,yi fl]) rfl (fun _ _=>by kernel_rfl) hS38 ?_
  refine tq 5 (yvV c2 g2 (yT ao m2 ac) p2) rfl (fun _ _=>by go_simp) hS38 ?_
  refine tq 6 (yi fl) rfl (fun _ _=>by go_simp) hS38 ?_
  refine wpAnyH_ready (rs:=[7]) (by kernel_rfl) (by simp) ?_;refine AllReadyH.cons rfl (fun K hK=> ?_) AllReadyH.nil
  have bu:But w4.heap.size w32 (w32.setCells w4.heap.size 0 (yvL c2 g2 (yT ao m2 ac) p2)):=de _ _ _ _;have hth:w32.there w4.heap.size 0 4:=dD q36;have q39:au (w32.setCells w4.heap.size 0 (yvL c2 g2 (yT ao m2 ac) p2)) w4.heap.size 77 (yvL c2 g2 (yT ao m2 ac) p2):=q36.sets _ rfl;have r40:=bu.rd r135 (aX r135 q36 (by simp));have b41:=bu.below b37 (by omega);rw[if_pos (by kernel_rfl)];refine wp_store_mid 77 (.tmp 11) (.tmp 46) rfl w4.heap.size 0 (yvA c2 g2 (yT ao m2 ac) p2) (by kernel_rfl) (by kernel_rfl) hth (by kernel_rfl) (by simp[Value.oneCell']) ?_;refine hK.out _ _ trivial (fun hS42=> ?_)
  clear hK K;clear q36 r135 b37 bu hth;refine tq 8 (yi fl) rfl (fun _ _=>by kernel_rfl) hS42 ?_
  refine wpAnyH_done (by kernel_rfl) ?_ _;clear hS0 hS25 hS31 hS38 hS42;change Exit.then _ _ _ _ (World.setCells w32 w4.heap.size 0 (yvL c2 g2 (yT ao m2 ac) p2));generalize World.setCells w32 w4.heap.size 0 (yvL c2 g2 (yT ao m2 ac) p2)=W43 at q39 r40 b41⊢;simp only[Act.put,List.getElem_toArray,List.getElem_cons_succ,List.getElem_cons_zero,List.setIfInBounds_toArray,List.set_cons_zero,List.set_cons_succ];obtain⟨c44,c45,c46,c47⟩:=q39.cs4
  go_wp2_with fail
  refine(HE.out _ _ _ b41 r40).mono ?_;rintro zz w48 ⟨rfl,bb49⟩;have b50:=aa b41 bb49;clear q39 r40 b41 bb49 HE c44 c45 c46 c47
  go_wp2
  go_ret3
  exact⟨by simp,b50⟩
 ·go_simp
  refine(HF.out _).mono ?_;rintro zz w25 ⟨rfl,bb26⟩;have q27:=q21.l bb26;have r28:=r22.l bb26;have b29:=aa b23 bb26;clear q21 r22 b23 bb26;refine hK.out _ _ trivial (fun hS30=> ?_)
  clear hK K;refine wpAnyH_ready (rs:=[0]) (by kernel_rfl) (by simp) ?_;refine AllReadyH.cons rfl (fun K hK=> ?_) AllReadyH.nil
  rw[if_pos (by kernel_rfl)];refine wp_yield (yvV c g (yT vo m vc) p) (fy 77 (.tmp 11) rfl w4.heap.size 0 (by kernel_rfl) _ _ q27.range underlying77 rfl (by kernel_rfl)) ?_;refine hK.out _ _ trivial (fun hS31=> ?_)
  clear hK K;refine wpAnyH_ready (rs:=[3]) (by kernel_rfl) (by simp) ?_;refine AllReadyH.cons rfl (fun K hK=> ?_) AllReadyH.nil
  go_simp
  refine(HM.out _ _ _ b29 r28).mono ?_;rintro zz w32 ⟨v134,rfl,r135,bb33⟩;have q36:=q27.l bb33;have b37:=aa b29 bb33;obtain⟨ao,ac,hv⟩:=r135.shape;subst hv;clear q27 r28 b29 bb33 HM;refine hK.out _ _ trivial (fun hS38=> ?_)
  clear hK K;refine tq 4 (.tuple #[yvV c2 g2 (yT ao m2 ac) p2,yi fl]) rfl (fun _ _=>by kernel_rfl) hS38 ?_
  refine tq 5 (yvV c2 g2 (yT ao m2 ac) p2) rfl (fun _ _=>by go_simp) hS38 ?_
  refine tq 6 (yi fl) rfl (fun _ _=>by go_simp) hS38 ?_
  refine wpAnyH_ready (rs:=[7]) (by kernel_rfl) (by simp) ?_;refine AllReadyH.cons rfl (fun K hK=> ?_) AllReadyH.nil
  have bu:But w4.heap.size w32 (w32.setCells w4.heap.size 0 (yvL c2 g2 (yT ao m2 ac) p2)):=de _ _ _ _;have hth:w32.there w4.heap.size 0 4:=dD q36;have q39:au (w32.setCells w4.heap.size 0 (yvL c2 g2 (yT ao m2 ac) p2)) w4.heap.size 77 (yvL c2 g2 (yT ao m2 ac) p2):=q36.sets _ rfl;have r40:=bu.rd r135 (aX r135 q36 (by simp));have b41:=bu.below b37 (by omega);rw[if_pos (by kernel_rfl)];refine wp_store_mid 77 (.tmp 11) (.tmp 46) rfl w4.heap.size 0 (yvA c2 g2 (yT ao m2 ac) p2) (by kernel_rfl) (by kernel_rfl) hth (by kernel_rfl) (by simp[Value.oneCell']) ?_;refine hK.out _ _ trivial (fun hS42=> ?_)
  clear hK K;clear q36 r135 b37 bu hth;refine tq 8 (yi fl) rfl (fun _ _=>by kernel_rfl) hS42 ?_
  refine wpAnyH_done (by kernel_rfl) ?_ _;clear hS0 hS30 hS31 hS38 hS42;change Exit.then _ _ _ _ (World.setCells w32 w4.heap.size 0 (yvL c2 g2 (yT ao m2 ac) p2));generalize World.setCells w32 w4.heap.size 0 (yvL c2 g2 (yT ao m2 ac) p2)=W43 at q39 r40 b41⊢;simp only[Act.put,List.getElem_toArray,List.getElem_cons_succ,List.getElem_cons_zero,List.setIfInBounds_toArray,List.set_cons_zero,List.set_cons_succ];obtain⟨c44,c45,c46,c47⟩:=q39.cs4
  go_wp2_with fail
  refine(HE.out _ _ _ b41 r40).mono ?_;rintro zz w48 ⟨rfl,bb49⟩;have b50:=aa b41 bb49;clear q39 r40 b41 bb49 HE c44 c45 c46 c47
  go_wp2
  go_ret3
  exact⟨by simp,b50⟩
theorem takeOf_1 (fam:Int)(zg:Bool)(n wy f0 f1 f2 R D L G:Int)(gr gx:Bool)(x:ak)(xo:Option Addr)(xc:Nat)(w:World)(HF:yJ 10 #[yi n] (.tuple #[yhV f0 f1 f2 R D L G gr fam,.bool true]))
  (HZ:yJ 49 #[yi n,.bool gx] (yoV 1 zg false yN 0)):
  yC 14 #[yi n,yEV 1 gx x xo xc,yi wy] w (RVF w 1 zg ⟨false,0,0⟩ 0):=by
 replace HF:Hid _:=HF;replace HZ:Hid _:=HZ;obtain⟨W4,hW5,q1,q2,b3⟩:=iG w (yEL 1 gx x xo xc) 37 (yoL 0 false false yN 0) 37;replace hW5:Hid _:=hW5
 go_enter func14,ntmps14
 go_upto_region 1 with fail
 rw[hW5.out];clear hW5
 go_wp2_with fail
 refine(HF.out _).mono ?_;rintro zz w6 ⟨rfl,bb7⟩;have q8:=q1.l bb7;have q9:=q2.l bb7;have b10:=aa b3 bb7;clear q1 q2 b3 bb7 HF;obtain⟨W13,hW12,q14,al11⟩:=cA w6 (yhL f0 f1 f2 R D L G gr fam) 28;replace hW12:Hid _:=hW12;have hl15:w.heap.size≤w6.heap.size:=b10.size;have hl16:=q9.lt;have q17:=q8.l al11;have q18:=q9.l al11;have b19:=aa b10 al11;clear q8 q9 b10 al11 q14
 go_upto_region 2 with fail
 rw[hW12.out];clear hW12;have c20:=q17.c 0 rfl;have c21:=q17.c 1 rfl
 go_wp2_with fail
 refine(HZ.out _).mono ?_;rintro zz w22 ⟨rfl,bb23⟩;have q24:=q18.l bb23;have b25:=aa b19 bb23;clear q17 q18 b19 bb23 HZ c20 c21;have hf:=dL (P:=Tryz.prog) q24 b25 (by omega) underlying37 rfl (by kernel_rfl) (yi 1) (.bool zg) (.bool false) yN (yi 0);have HH:Hid (_∧_):=⟨hf.1,hf.2.1⟩;obtain⟨⟨z0,z1,z2,z3,z4⟩,y0,y1,y2,y3,y4⟩:=dN q24;clear hf q24 b25
 go_wp2
 obtain⟨hl,bR⟩:=HH.out;exact bodyPost_ret (aj results14 rfl rfl hl) rfl ⟨_,rfl,aN _ _,bR⟩
theorem takeOf_2 (fam c fl:Int)(g:Bool)(t:ak)(n wy f0 f1 f2 R D L G:Int)(gr gx:Bool)(x:ak)(xo:Option Addr)(xc:Nat)(w:World)(HF:yJ 10 #[yi n] (.tuple #[yhV f0 f1 f2 R D L G gr fam,.bool true]))
  (HD: ∀w1,yB w w1→yC 19 #[yi n,yMV x xo xc,yi wy] w1 (RVF w1 c g t fl)):
  yC 14 #[yi n,yEV 2 gx x xo xc,yi wy] w (RVF w c g t fl):=by
 replace HF:Hid _:=HF;replace HD:Hid _:=HD;obtain⟨W4,hW5,q1,q2,b3⟩:=iG w (yEL 2 gx x xo xc) 37 (yoL 0 false false yN 0) 37;replace hW5:Hid _:=hW5
 go_enter func14,ntmps14
 go_upto_region 1 with fail
 rw[hW5.out];clear hW5
 go_wp2_with fail
 refine(HF.out _).mono ?_;rintro zz w6 ⟨rfl,bb7⟩;have q8:=q1.l bb7;have q9:=q2.l bb7;have b10:=aa b3 bb7;clear q1 q2 b3 bb7 HF;obtain⟨W13,hW12,q14,al11⟩:=cA w6 (yhL f0 f1 f2 R D L G gr fam) 28;replace hW12:Hid _:=hW12;have hl15:w.heap.size≤w6.heap.size:=b10.size;have hl16:=q9.lt;have q17:=q8.l al11;have q18:=q9.l al11;have b19:=aa b10 al11;clear q8 q9 b10 al11 q14
 go_upto_region 2 with fail
 rw[hW12.out];clear hW12;have c20:=q17.c 0 rfl;have c21:=q17.c 2 rfl;have c22:=q17.c 3 rfl;have c23:=q17.c 4 rfl
 go_wp2_with fail
 refine(HD.out _ b19).mono ?_;rintro zz w24 ⟨v126,rfl,r127,bb25⟩;have q28:=q18.l bb25;have b29:=aa b19 bb25;obtain⟨so,sc,hv⟩:=r127.shape;subst hv;clear q17 q18 b19 bb25 HD c20 c21 c22 c23;have hf:=dL (P:=Tryz.prog) q28 b29 (by omega) underlying37 rfl (by kernel_rfl) (yi c) (.bool g) (.bool t.s) (yS so t.n sc) (yi t.e);have HH:Hid (_∧_∧_):=⟨hf.1,hf.2.2.rd r127 (mu r127 q28),hf.2.1⟩;obtain⟨⟨z0,z1,z2,z3,z4⟩,y0,y1,y2,y3,y4⟩:=dN q28;clear hf q28 r127 b29
 go_wp2
 obtain⟨hl,rRs,bR⟩:=HH.out;exact bodyPost_ret (aj results14 rfl rfl hl) rfl ⟨_,rfl,rRs,bR⟩
theorem takeOf_3 (n wy f0 f1 f2 R D L G:Int)(gr gx:Bool)(x:ak)(xo:Option Addr)(xc:Nat)(w:World)(rx:Rd w .i64 (yS xo x.n xc) (Dg.dg 65536 x.n))(HF:yJ 10 #[yi n] (.tuple #[yhV f0 f1 f2 R D L G gr 1,.bool true])):
  yC 14 #[yi n,yEV 3 gx x xo xc,yi wy] w (RVF w 3 gx x 0):=by
 replace HF:Hid _:=HF;obtain⟨W4,hW5,q1,q2,b3⟩:=iG w (yEL 3 gx x xo xc) 37 (yoL 0 false false yN 0) 37;replace hW5:Hid _:=hW5;have r6:=rx.l b3;clear rx
 go_enter func14,ntmps14
 go_upto_region 1 with fail
 rw[hW5.out];clear hW5
 go_wp2_with fail
 refine(HF.out _).mono ?_;rintro zz w7 ⟨rfl,bb8⟩;have q9:=q1.l bb8;have q10:=q2.l bb8;have r11:=r6.l bb8;have b12:=aa b3 bb8;clear q1 q2 r6 b3 bb8 HF;obtain⟨W15,hW14,q16,al13⟩:=cA w7 (yhL f0 f1 f2 R D L G gr 1) 28;replace hW14:Hid _:=hW14;have hl17:w.heap.size≤w7.heap.size:=b12.size;have hl18:=q10.lt;have q19:=q9.l al13;have q20:=q10.l al13;have r21:=r11.l al13;have b22:=aa b12 al13;clear q9 q10 r11 b12 al13
 go_upto_region 2 with fail
 rw[hW14.out];clear hW14;obtain⟨c23,c24,c25,c26,c27⟩:=q19.cs5;have c28:=q16.c 8 rfl;have hf:=dL (P:=Tryz.prog) q20 b22 (by omega) underlying37 rfl (by kernel_rfl) (yi 3) (.bool gx) (.bool x.s) (yS xo x.n xc) (yi x.e);have HH:Hid (_∧_∧_):=⟨hf.1,hf.2.2.rd r21 (mu r21 q20),hf.2.1⟩;obtain⟨⟨z0,z1,z2,z3,z4⟩,y0,y1,y2,y3,y4⟩:=dN q20;clear hf q19 q20 q16 r21 b22
 go_wp2
 obtain⟨hl,rRx,bR⟩:=HH.out;exact bodyPost_ret (aj results14 rfl rfl hl) rfl ⟨_,rfl,rRx,bR⟩
theorem takeOf_4 (c:Int)(n wy f0 f1 f2 R D L G:Int)(gr gx:Bool)(x:ak)(xo:Option Addr)(xc:Nat)(w:World)(HF:yJ 10 #[yi n] (.tuple #[yhV f0 f1 f2 R D L G gr 1,.bool true]))
  (HN:yJ 50 #[yi n] (yoV c false false yN 0)):
  yC 14 #[yi n,yEV 4 gx x xo xc,yi wy] w (RVF w c false ⟨false,0,0⟩ 0):=by
 replace HF:Hid _:=HF;replace HN:Hid _:=HN;obtain⟨W4,hW5,q1,q2,b3⟩:=iG w (yEL 4 gx x xo xc) 37 (yoL 0 false false yN 0) 37;replace hW5:Hid _:=hW5
 go_enter func14,ntmps14
 go_upto_region 1 with fail
 rw[hW5.out];clear hW5
 go_wp2_with fail
 refine(HF.out _).mono ?_;rintro zz w6 ⟨rfl,bb7⟩;have q8:=q1.l bb7;have q9:=q2.l bb7;have b10:=aa b3 bb7;clear q1 q2 b3 bb7 HF;obtain⟨W13,hW12,q14,al11⟩:=cA w6 (yhL f0 f1 f2 R D L G gr 1) 28;replace hW12:Hid _:=hW12;have hl15:w.heap.size≤w6.heap.size:=b10.size;have hl16:=q9.lt;have q17:=q8.l al11;have q18:=q9.l al11;have b19:=aa b10 al11;clear q8 q9 b10 al11
 go_upto_region 2 with fail
 rw[hW12.out];clear hW12;have c20:=q17.c 0 rfl;have c21:=q14.c 8 rfl
 go_wp2_with fail
 refine(HN.out _).mono ?_;rintro zz w22 ⟨rfl,bb23⟩;have q24:=q18.l bb23;have b25:=aa b19 bb23;clear q17 q18 q14 b19 bb23 HN c20 c21;have hf:=dL (P:=Tryz.prog) q24 b25 (by omega) underlying37 rfl (by kernel_rfl) (yi c) (.bool false) (.bool false) yN (yi 0);have HH:Hid (_∧_):=⟨hf.1,hf.2.1⟩;obtain⟨⟨z0,z1,z2,z3,z4⟩,y0,y1,y2,y3,y4⟩:=dN q24;clear hf q24 b25
 go_wp2
 obtain⟨hl,bR⟩:=HH.out;exact bodyPost_ret (aj results14 rfl rfl hl) rfl ⟨_,rfl,aN _ _,bR⟩
theorem takeOf_l3 (fam c:Int)(n wy f0 f1 f2 R D L G:Int)(gr gx:Bool)(x:ak)(xo:Option Addr)(xc:Nat)(w:World)(hf:(fam==1)=false)(HF:yJ 10 #[yi n] (.tuple #[yhV f0 f1 f2 R D L G gr fam,.bool true]))
  (HL: ∀w1,yC 51 #[yi n] w1 (RVF w1 c false ⟨false,0,0⟩ 16)):
  yC 14 #[yi n,yEV 3 gx x xo xc,yi wy] w (RVF w c false ⟨false,0,0⟩ 16):=by
 replace HF:Hid _:=HF;replace HL:Hid _:=HL;obtain⟨W4,hW5,q1,q2,b3⟩:=iG w (yEL 3 gx x xo xc) 37 (yoL 0 false false yN 0) 37;replace hW5:Hid _:=hW5
 go_enter func14,ntmps14
 go_upto_region 1 with fail
 rw[hW5.out];clear hW5
 go_wp2_with fail
 refine(HF.out _).mono ?_;rintro zz w6 ⟨rfl,bb7⟩;have q8:=q1.l bb7;have q9:=q2.l bb7;have b10:=aa b3 bb7;clear q1 q2 b3 bb7 HF;obtain⟨W13,hW12,q14,al11⟩:=cA w6 (yhL f0 f1 f2 R D L G gr fam) 28;replace hW12:Hid _:=hW12;have hl15:w.heap.size≤w6.heap.size:=b10.size;have hl16:=q9.lt;have q17:=q8.l al11;have q18:=q9.l al11;have b19:=aa b10 al11;clear q8 q9 b10 al11
 go_upto_region 2 with fail
 rw[hW12.out];clear hW12;have c20:=q17.c 0 rfl;have c21:=q14.c 8 rfl
 go_wp2_with fail
 refine(HL.out _).mono ?_;rintro zz w22 ⟨v124,rfl,r125,bb23⟩;have q26:=q18.l bb23;have b27:=aa b19 bb23;obtain⟨so,sc,hv⟩:=r125.shape;subst hv;clear q17 q18 q14 b19 bb23 HL c20 c21;have hf:=dL (P:=Tryz.prog) q26 b27 (by omega) underlying37 rfl (by kernel_rfl) (yi c) (.bool false) (.bool false) (yS so 0 sc) (yi 0);have HH:Hid (_∧_∧_):=⟨hf.1,hf.2.2.rd r125 (mu r125 q26),hf.2.1⟩;obtain⟨⟨z0,z1,z2,z3,z4⟩,y0,y1,y2,y3,y4⟩:=dN q26;clear hf q26 r125 b27
 go_wp2
 obtain⟨hl,rRs,bR⟩:=HH.out;exact bodyPost_ret (aj results14 rfl rfl hl) rfl ⟨_,rfl,rRs,bR⟩
theorem takeOf_l4 (fam c:Int)(n wy f0 f1 f2 R D L G:Int)(gr gx:Bool)(x:ak)(xo:Option Addr)(xc:Nat)(w:World)(hf:(fam==1)=false)(HF:yJ 10 #[yi n] (.tuple #[yhV f0 f1 f2 R D L G gr fam,.bool true]))
  (HL: ∀w1,yC 51 #[yi n] w1 (RVF w1 c false ⟨false,0,0⟩ 16)):
  yC 14 #[yi n,yEV 4 gx x xo xc,yi wy] w (RVF w c false ⟨false,0,0⟩ 16):=by
 replace HF:Hid _:=HF;replace HL:Hid _:=HL;obtain⟨W4,hW5,q1,q2,b3⟩:=iG w (yEL 4 gx x xo xc) 37 (yoL 0 false false yN 0) 37;replace hW5:Hid _:=hW5
 go_enter func14,ntmps14
 go_upto_region 1 with fail
 rw[hW5.out];clear hW5
 go_wp2_with fail
 refine(HF.out _).mono ?_;rintro zz w6 ⟨rfl,bb7⟩;have q8:=q1.l bb7;have q9:=q2.l bb7;have b10:=aa b3 bb7;clear q1 q2 b3 bb7 HF;obtain⟨W13,hW12,q14,al11⟩:=cA w6 (yhL f0 f1 f2 R D L G gr fam) 28;replace hW12:Hid _:=hW12;have hl15:w.heap.size≤w6.heap.size:=b10.size;have hl16:=q9.lt;have q17:=q8.l al11;have q18:=q9.l al11;have b19:=aa b10 al11;clear q8 q9 b10 al11
 go_upto_region 2 with fail
 rw[hW12.out];clear hW12;have c20:=q17.c 0 rfl;have c21:=q14.c 8 rfl
 go_wp2_with fail
 refine(HL.out _).mono ?_;rintro zz w22 ⟨v124,rfl,r125,bb23⟩;have q26:=q18.l bb23;have b27:=aa b19 bb23;obtain⟨so,sc,hv⟩:=r125.shape;subst hv;clear q17 q18 q14 b19 bb23 HL c20 c21;have hf:=dL (P:=Tryz.prog) q26 b27 (by omega) underlying37 rfl (by kernel_rfl) (yi c) (.bool false) (.bool false) (yS so 0 sc) (yi 0);have HH:Hid (_∧_∧_):=⟨hf.1,hf.2.2.rd r125 (mu r125 q26),hf.2.1⟩;obtain⟨⟨z0,z1,z2,z3,z4⟩,y0,y1,y2,y3,y4⟩:=dN q26;clear hf q26 r125 b27
 go_wp2
 obtain⟨hl,rRs,bR⟩:=HH.out;exact bodyPost_ret (aj results14 rfl rfl hl) rfl ⟨_,rfl,rRs,bR⟩
theorem takeOf_l5 (fam c:Int)(n wy f0 f1 f2 R D L G:Int)(gr gx:Bool)(x:ak)(xo:Option Addr)(xc:Nat)(w:World)(HF:yJ 10 #[yi n] (.tuple #[yhV f0 f1 f2 R D L G gr fam,.bool true]))
  (HL: ∀w1,yC 51 #[yi n] w1 (RVF w1 c false ⟨false,0,0⟩ 16)):
  yC 14 #[yi n,yEV 5 gx x xo xc,yi wy] w (RVF w c false ⟨false,0,0⟩ 16):=by
 replace HF:Hid _:=HF;replace HL:Hid _:=HL;obtain⟨W4,hW5,q1,q2,b3⟩:=iG w (yEL 5 gx x xo xc) 37 (yoL 0 false false yN 0) 37;replace hW5:Hid _:=hW5
 go_enter func14,ntmps14
 go_upto_region 1 with fail
 rw[hW5.out];clear hW5
 go_wp2_with fail
 refine(HF.out _).mono ?_;rintro zz w6 ⟨rfl,bb7⟩;have q8:=q1.l bb7;have q9:=q2.l bb7;have b10:=aa b3 bb7;clear q1 q2 b3 bb7 HF;obtain⟨W13,hW12,q14,al11⟩:=cA w6 (yhL f0 f1 f2 R D L G gr fam) 28;replace hW12:Hid _:=hW12;have hl15:w.heap.size≤w6.heap.size:=b10.size;have hl16:=q9.lt;have q17:=q8.l al11;have q18:=q9.l al11;have b19:=aa b10 al11;clear q8 q9 b10 al11 q14
 go_upto_region 2 with fail
 rw[hW12.out];clear hW12;have c20:=q17.c 0 rfl
 go_wp2_with fail
 refine(HL.out _).mono ?_;rintro zz w21 ⟨v123,rfl,r124,bb22⟩;have q25:=q18.l bb22;have b26:=aa b19 bb22;obtain⟨so,sc,hv⟩:=r124.shape;subst hv;clear q17 q18 b19 bb22 HL c20;have hf:=dL (P:=Tryz.prog) q25 b26 (by omega) underlying37 rfl (by kernel_rfl) (yi c) (.bool false) (.bool false) (yS so 0 sc) (yi 0);have HH:Hid (_∧_∧_):=⟨hf.1,hf.2.2.rd r124 (mu r124 q25),hf.2.1⟩;obtain⟨⟨z0,z1,z2,z3,z4⟩,y0,y1,y2,y3,y4⟩:=dN q25;clear hf q25 r124 b26
 go_wp2
 obtain⟨hl,rRs,bR⟩:=HH.out;exact bodyPost_ret (aj results14 rfl rfl hl) rfl ⟨_,rfl,rRs,bR⟩
theorem converts_nf (fma0 fma1 fma2 fma3 fma4 fma5 fma6 fma7:Int)(fmag:Bool)(fmb0 fmb1 fmb2 fmb3 fmb4 fmb5 fmb6 fmb7:Int)(fmbg:Bool)(bb:Bool)(n k wy f1 e1:Int)(s st:ByteArray)(w:World)
  (HA:yH w 9 #[yi n,.string s,yi k,yi wy] (.tuple #[.string st,yi f1,yi e1]))
  (HF:yJ 10 #[yi n] (.tuple #[yhV fma0 fma1 fma2 fma3 fma4 fma5 fma6 fmag fma7,.bool false]))
  (HG:yJ 10 #[yi k] (.tuple #[yhV fmb0 fmb1 fmb2 fmb3 fmb4 fmb5 fmb6 fmbg fmb7,.bool bb]))
  (HB:yH w 15 #[] (.bool true))
  (HI:yH w 16 #[yi k,.string st,yi f1,yi e1,yi 6,yoV 0 false false yN 0,yi 0] (.bool true)):
  yC 3 #[yi n,.string s,yi k,yi wy] w (yR w (.bool true)):=by
 replace HA:Hid _:=HA;replace HF:Hid _:=HF;replace HG:Hid _:=HG;replace HB:Hid _:=HB;replace HI:Hid _:=HI
 go_enter func3,ntmps3
 have b0:=Below.refl w.heap.size w
 go_wp2_with fail
 refine(HA.out _ b0).mono ?_;rintro zz w1 ⟨rfl,bb2⟩;have b3:=aa b0 bb2;clear b0 bb2 HA
 go_wp2_with fail
 refine(HF.out _).mono ?_;rintro zz w4 ⟨rfl,bb5⟩;have b6:=aa b3 bb5;clear b3 bb5 HF;obtain⟨W9,hW8,q10,al7⟩:=cA w4 (yhL fma0 fma1 fma2 fma3 fma4 fma5 fma6 fmag fma7) 28;replace hW8:Hid _:=hW8;have hl11:w.heap.size≤w4.heap.size:=b6.size;have b12:=aa b6 al7;clear b6 al7 q10
 go_upto_region 4 with fail
 rw[hW8.out];clear hW8
 go_wp2_with fail
 refine(HG.out _).mono ?_;rintro zz w13 ⟨rfl,bb14⟩;have b15:=aa b12 bb14;clear b12 bb14 HG;obtain⟨W18,hW17,q19,al16⟩:=cA w13 (yhL fmb0 fmb1 fmb2 fmb3 fmb4 fmb5 fmb6 fmbg fmb7) 28;replace hW17:Hid _:=hW17;have hl20:w.heap.size≤w13.heap.size:=b15.size;have b21:=aa b15 al16;clear b15 al16 q19
 go_upto_region 5 with fail
 rw[hW17.out];clear hW17;obtain⟨W24,hW23,q25,al22⟩:=cA W18 (yoL 0 false false yN 0) 37;replace hW23:Hid _:=hW23;have hl26:w.heap.size≤W18.heap.size:=b21.size;have b27:=aa b21 al22;clear b21 al22
 go_upto_region 12 with fail
 rw[hW23.out];clear hW23
 go_wp2_with fail
 refine(HB.out _ b27).mono ?_;rintro zz w28 ⟨rfl,bb29⟩;have q30:=q25.l bb29;have b31:=aa b27 bb29;clear q25 b27 bb29 HB;obtain⟨c32,c33,c34,c35,c36⟩:=q30.cs5
 go_wp2_with fail
 refine(HI.out _ b31).mono ?_;rintro zz w37 ⟨rfl,bb38⟩;have b39:=aa b31 bb38;clear q30 b31 bb38 HI c32 c33 c34 c35 c36
 go_wp2
 go_ret
 exact⟨by simp,b39⟩
theorem converts_nt (fma0 fma1 fma2 fma3 fma4 fma5 fma6 fma7:Int)(fmag:Bool)(fmb0 fmb1 fmb2 fmb3 fmb4 fmb5 fmb6 fmb7:Int)(fmbg:Bool)(n k wy f1 e1:Int)(s st:ByteArray)(w:World)
  (HA:yH w 9 #[yi n,.string s,yi k,yi wy] (.tuple #[.string st,yi f1,yi e1]))
  (HF:yJ 10 #[yi n] (.tuple #[yhV fma0 fma1 fma2 fma3 fma4 fma5 fma6 fmag fma7,.bool true]))
  (HG:yJ 10 #[yi k] (.tuple #[yhV fmb0 fmb1 fmb2 fmb3 fmb4 fmb5 fmb6 fmbg fmb7,.bool false]))
  (HB:yH w 15 #[] (.bool true))
  (HI:yH w 16 #[yi k,.string st,yi f1,yi e1,yi 6,yoV 0 false false yN 0,yi 0] (.bool true)):
  yC 3 #[yi n,.string s,yi k,yi wy] w (yR w (.bool true)):=by
 replace HA:Hid _:=HA;replace HF:Hid _:=HF;replace HG:Hid _:=HG;replace HB:Hid _:=HB;replace HI:Hid _:=HI
 go_enter func3,ntmps3
 have b0:=Below.refl w.heap.size w
 go_wp2_with fail
 refine(HA.out _ b0).mono ?_;rintro zz w1 ⟨rfl,bb2⟩;have b3:=aa b0 bb2;clear b0 bb2 HA
 go_wp2_with fail
 refine(HF.out _).mono ?_;rintro zz w4 ⟨rfl,bb5⟩;have b6:=aa b3 bb5;clear b3 bb5 HF;obtain⟨W9,hW8,q10,al7⟩:=cA w4 (yhL fma0 fma1 fma2 fma3 fma4 fma5 fma6 fmag fma7) 28;replace hW8:Hid _:=hW8;have hl11:w.heap.size≤w4.heap.size:=b6.size;have b12:=aa b6 al7;clear b6 al7 q10
 go_upto_region 4 with fail
 rw[hW8.out];clear hW8
 go_wp2_with fail
 refine(HG.out _).mono ?_;rintro zz w13 ⟨rfl,bb14⟩;have b15:=aa b12 bb14;clear b12 bb14 HG;obtain⟨W18,hW17,q19,al16⟩:=cA w13 (yhL fmb0 fmb1 fmb2 fmb3 fmb4 fmb5 fmb6 fmbg fmb7) 28;replace hW17:Hid _:=hW17;have hl20:w.heap.size≤w13.heap.size:=b15.size;have b21:=aa b15 al16;clear b15 al16 q19
 go_upto_region 5 with fail
 rw[hW17.out];clear hW17;obtain⟨W24,hW23,q25,al22⟩:=cA W18 (yoL 0 false false yN 0) 37;replace hW23:Hid _:=hW23;have hl26:w.heap.size≤W18.heap.size:=b21.size;have b27:=aa b21 al22;clear b21 al22
 go_upto_region 12 with fail
 rw[hW23.out];clear hW23
 go_wp2_with fail
 refine(HB.out _ b27).mono ?_;rintro zz w28 ⟨rfl,bb29⟩;have q30:=q25.l bb29;have b31:=aa b27 bb29;clear q25 b27 bb29 HB;obtain⟨c32,c33,c34,c35,c36⟩:=q30.cs5
 go_wp2_with fail
 refine(HI.out _ b31).mono ?_;rintro zz w37 ⟨rfl,bb38⟩;have b39:=aa b31 bb38;clear q30 b31 bb38 HI c32 c33 c34 c35 c36
 go_wp2
 go_ret
 exact⟨by simp,b39⟩
theorem converts_bad (r:Int)(fma0 fma1 fma2 fma3 fma4 fma5 fma6 fma7:Int)(fmag:Bool)(fmb0 fmb1 fmb2 fmb3 fmb4 fmb5 fmb6 fmb7:Int)(fmbg:Bool)(n k wy f1 e1:Int)(s st:ByteArray)(w:World)(hr:(r==0)=false)
  (HA:yH w 9 #[yi n,.string s,yi k,yi wy] (.tuple #[.string st,yi f1,yi e1]))
  (HF:yJ 10 #[yi n] (.tuple #[yhV fma0 fma1 fma2 fma3 fma4 fma5 fma6 fmag fma7,.bool true]))
  (HG:yJ 10 #[yi k] (.tuple #[yhV fmb0 fmb1 fmb2 fmb3 fmb4 fmb5 fmb6 fmbg fmb7,.bool true]))
  (HO:yJ 11 #[yi n,.string s] (yi r))
  (HB:yH w 15 #[] (.bool true))
  (HI:yH w 16 #[yi k,.string st,yi f1,yi e1,yi r,yoV 0 false false yN 0,yi 0] (.bool true)):
  yC 3 #[yi n,.string s,yi k,yi wy] w (yR w (.bool true)):=by
 replace HA:Hid _:=HA;replace HF:Hid _:=HF;replace HG:Hid _:=HG;replace HO:Hid _:=HO;replace HB:Hid _:=HB;replace HI:Hid _:=HI
 go_enter func3,ntmps3
 have b0:=Below.refl w.heap.size w
 go_wp2_with fail
 refine(HA.out _ b0).mono ?_;rintro zz w1 ⟨rfl,bb2⟩;have b3:=aa b0 bb2;clear b0 bb2 HA
 go_wp2_with fail
 refine(HF.out _).mono ?_;rintro zz w4 ⟨rfl,bb5⟩;have b6:=aa b3 bb5;clear b3 bb5 HF;obtain⟨W9,hW8,q10,al7⟩:=cA w4 (yhL fma0 fma1 fma2 fma3 fma4 fma5 fma6 fmag fma7) 28;replace hW8:Hid _:=hW8;have hl11:w.heap.size≤w4.heap.size:=b6.size;have b12:=aa b6 al7;clear b6 al7 q10
 go_upto_region 4 with fail
 rw[hW8.out];clear hW8
 go_wp2_with fail
 refine(HG.out _).mono ?_;rintro zz w13 ⟨rfl,bb14⟩;have b15:=aa b12 bb14;clear b12 bb14 HG;obtain⟨W18,hW17,q19,al16⟩:=cA w13 (yhL fmb0 fmb1 fmb2 fmb3 fmb4 fmb5 fmb6 fmbg fmb7) 28;replace hW17:Hid _:=hW17;have hl20:w.heap.size≤w13.heap.size:=b15.size;have b21:=aa b15 al16;clear b15 al16 q19
 go_upto_region 5 with fail
 rw[hW17.out];clear hW17
 go_wp2_with fail
 refine(HO.out _).mono ?_;rintro zz w22 ⟨rfl,bb23⟩;have b24:=aa b21 bb23;clear b21 bb23 HO;obtain⟨W27,hW26,q28,al25⟩:=cA w22 (yoL 0 false false yN 0) 37;replace hW26:Hid _:=hW26;have hl29:w.heap.size≤w22.heap.size:=b24.size;have b30:=aa b24 al25;clear b24 al25
 go_upto_region 12 with fail
 rw[hW26.out];clear hW26
 go_wp2_with fail
 refine(HB.out _ b30).mono ?_;rintro zz w31 ⟨rfl,bb32⟩;have q33:=q28.l bb32;have b34:=aa b30 bb32;clear q28 b30 bb32 HB;obtain⟨c35,c36,c37,c38,c39⟩:=q33.cs5
 go_wp2_with fail
 refine(HI.out _ b34).mono ?_;rintro zz w40 ⟨rfl,bb41⟩;have b42:=aa b34 bb41;clear q33 b34 bb41 HI c35 c36 c37 c38 c39
 go_wp2
 go_ret
 exact⟨by simp,b42⟩
theorem converts_way (fma0 fma1 fma2 fma3 fma4 fma5 fma6 fma7:Int)(fmag:Bool)(fmb0 fmb1 fmb2 fmb3 fmb4 fmb5 fmb6 fmb7:Int)(fmbg:Bool)(n k wy f1 e1:Int)(s st:ByteArray)(w:World)
  (HA:yH w 9 #[yi n,.string s,yi k,yi wy] (.tuple #[.string st,yi f1,yi e1]))
  (HF:yJ 10 #[yi n] (.tuple #[yhV fma0 fma1 fma2 fma3 fma4 fma5 fma6 fmag fma7,.bool true]))
  (HG:yJ 10 #[yi k] (.tuple #[yhV fmb0 fmb1 fmb2 fmb3 fmb4 fmb5 fmb6 fmbg fmb7,.bool true]))
  (HO:yJ 11 #[yi n,.string s] (yi 0))
  (HY: ∀w1,yC 12 #[yi wy] w1 fun z w'=>z= .returned (.bool false)∧w'=w1)
  (HB:yH w 15 #[] (.bool true))
  (HI:yH w 16 #[yi k,.string st,yi f1,yi e1,yi 6,yoV 0 false false yN 0,yi 0] (.bool true)):
  yC 3 #[yi n,.string s,yi k,yi wy] w (yR w (.bool true)):=by
 replace HA:Hid _:=HA;replace HF:Hid _:=HF;replace HG:Hid _:=HG;replace HO:Hid _:=HO;replace HY:Hid _:=HY;replace HB:Hid _:=HB;replace HI:Hid _:=HI
 go_enter func3,ntmps3
 have b0:=Below.refl w.heap.size w
 go_wp2_with fail
 refine(HA.out _ b0).mono ?_;rintro zz w1 ⟨rfl,bb2⟩;have b3:=aa b0 bb2;clear b0 bb2 HA
 go_wp2_with fail
 refine(HF.out _).mono ?_;rintro zz w4 ⟨rfl,bb5⟩;have b6:=aa b3 bb5;clear b3 bb5 HF;obtain⟨W9,hW8,q10,al7⟩:=cA w4 (yhL fma0 fma1 fma2 fma3 fma4 fma5 fma6 fmag fma7) 28;replace hW8:Hid _:=hW8;have hl11:w.heap.size≤w4.heap.size:=b6.size;have b12:=aa b6 al7;clear b6 al7 q10
 go_upto_region 4 with fail
 rw[hW8.out];clear hW8
 go_wp2_with fail
 refine(HG.out _).mono ?_;rintro zz w13 ⟨rfl,bb14⟩;have b15:=aa b12 bb14;clear b12 bb14 HG;obtain⟨W18,hW17,q19,al16⟩:=cA w13 (yhL fmb0 fmb1 fmb2 fmb3 fmb4 fmb5 fmb6 fmbg fmb7) 28;replace hW17:Hid _:=hW17;have hl20:w.heap.size≤w13.heap.size:=b15.size;have b21:=aa b15 al16;clear b15 al16 q19
 go_upto_region 5 with fail
 rw[hW17.out];clear hW17
 go_wp2_with fail
 refine(HO.out _).mono ?_;rintro zz w22 ⟨rfl,bb23⟩;have b24:=aa b21 bb23;clear b21 bb23 HO
 go_wp2_with fail
 refine(HY.out _).mono ?_;rintro zz w25 ⟨rfl,rfl⟩;clear HY;obtain⟨W29,hW28,q30,al27⟩:=cA w25 (yoL 0 false false yN 0) 37;replace hW28:Hid _:=hW28;have hl31:w.heap.size≤w25.heap.size:=b24.size;have b32:=aa b24 al27;clear b24 al27
 go_upto_region 12 with fail
 rw[hW28.out];clear hW28
 go_wp2_with fail
 refine(HB.out _ b32).mono ?_;rintro zz w33 ⟨rfl,bb34⟩;have q35:=q30.l bb34;have b36:=aa b32 bb34;clear q30 b32 bb34 HB;obtain⟨c37,c38,c39,c40,c41⟩:=q35.cs5
 go_wp2_with fail
 refine(HI.out _ b36).mono ?_;rintro zz w42 ⟨rfl,bb43⟩;have b44:=aa b36 bb43;clear q35 b36 bb43 HI c37 c38 c39 c40 c41
 go_wp2
 go_ret
 exact⟨by simp,b44⟩
theorem converts_ok (cx c fl:Int)(gx g:Bool)(x t:ak)(fma0 fma1 fma2 fma3 fma4 fma5 fma6 fma7:Int)(fmag:Bool)(fmb0 fmb1 fmb2 fmb3 fmb4 fmb5 fmb6 fmb7:Int)(fmbg:Bool)(n k wy f1 e1:Int)(s st:ByteArray)(w:World)
  (HA:yH w 9 #[yi n,.string s,yi k,yi wy] (.tuple #[.string st,yi f1,yi e1]))
  (HF:yJ 10 #[yi n] (.tuple #[yhV fma0 fma1 fma2 fma3 fma4 fma5 fma6 fmag fma7,.bool true]))
  (HG:yJ 10 #[yi k] (.tuple #[yhV fmb0 fmb1 fmb2 fmb3 fmb4 fmb5 fmb6 fmbg fmb7,.bool true]))
  (HO:yJ 11 #[yi n,.string s] (yi 0))
  (HY: ∀w1,yC 12 #[yi wy] w1 fun z w'=>z= .returned (.bool true)∧w'=w1)
  (HD: ∀w1,yB w w1→yC 13 #[yi n,.string s] w1 fun z w'=> ∃xo xc cg,z= .returned (.tuple #[yEV cx gx x xo xc,.bool cg])∧Rd w' .i64 (yS xo x.n xc) (Dg.dg 65536 x.n)∧yB w1 w')
  (HT: ∀xo xc w1,yB w w1→Rd w1 .i64 (yS xo x.n xc) (Dg.dg 65536 x.n)→yC 14 #[yi k,yEV cx gx x xo xc,yi wy] w1 (RVF w1 c g t fl))
  (HB:yH w 15 #[] (.bool true))
  (HI: ∀so sc w1,yB w w1→Rd w1 .i64 (yS so t.n sc) (Dg.dg 65536 t.n)→yC 16 #[yi k,.string st,yi f1,yi e1,yi 0,yEV c g t so sc,yi fl] w1 (yR w1 (.bool true))):
  yC 3 #[yi n,.string s,yi k,yi wy] w (yR w (.bool true)):=by
 replace HA:Hid _:=HA;replace HF:Hid _:=HF;replace HG:Hid _:=HG;replace HO:Hid _:=HO;replace HY:Hid _:=HY;replace HD:Hid _:=HD;replace HT:Hid _:=HT;replace HB:Hid _:=HB;replace HI:Hid _:=HI
 go_enter func3,ntmps3
 have b0:=Below.refl w.heap.size w
 go_wp2_with fail
 refine(HA.out _ b0).mono ?_;rintro zz w1 ⟨rfl,bb2⟩;have b3:=aa b0 bb2;clear b0 bb2 HA
 go_wp2_with fail
 refine(HF.out _).mono ?_;rintro zz w4 ⟨rfl,bb5⟩;have b6:=aa b3 bb5;clear b3 bb5 HF;obtain⟨W9,hW8,q10,al7⟩:=cA w4 (yhL fma0 fma1 fma2 fma3 fma4 fma5 fma6 fmag fma7) 28;replace hW8:Hid _:=hW8;have hl11:w.heap.size≤w4.heap.size:=b6.size;have b12:=aa b6 al7;clear b6 al7 q10
 go_upto_region 4 with fail
 rw[hW8.out];clear hW8
 go_wp2_with fail
 refine(HG.out _).mono ?_;rintro zz w13 ⟨rfl,bb14⟩;have b15:=aa b12 bb14;clear b12 bb14 HG;obtain⟨W18,hW17,q19,al16⟩:=cA w13 (yhL fmb0 fmb1 fmb2 fmb3 fmb4 fmb5 fmb6 fmbg fmb7) 28;replace hW17:Hid _:=hW17;have hl20:w.heap.size≤w13.heap.size:=b15.size;have b21:=aa b15 al16;clear b15 al16 q19
 go_upto_region 5 with fail
 rw[hW17.out];clear hW17
 go_wp2_with fail
 refine(HO.out _).mono ?_;rintro zz w22 ⟨rfl,bb23⟩;have b24:=aa b21 bb23;clear b21 bb23 HO
 go_wp2_with fail
 refine(HY.out _).mono ?_;rintro zz w25 ⟨rfl,rfl⟩;clear HY;obtain⟨W29,hW28,q30,al27⟩:=cA w25 (yoL 0 false false yN 0) 37;replace hW28:Hid _:=hW28;have hl31:w.heap.size≤w25.heap.size:=b24.size;have b32:=aa b24 al27;clear b24 al27
 go_upto_region 12 with fail
 rw[hW28.out];clear hW28
 go_wp2_with fail
 refine(HD.out _ b32).mono ?_;rintro zz w33 ⟨xo,xc,cg,rfl,r135,bb34⟩;have q36:=q30.l bb34;have b37:=aa b32 bb34;clear q30 b32 bb34 HD;obtain⟨W40,hW39,q41,al38⟩:=cA w33 (yEL cx gx x xo xc) 37;replace hW39:Hid _:=hW39;have hl42:w.heap.size≤w33.heap.size:=b37.size;have hl43:=q36.lt;have q44:=q36.l al38;have r45:=r135.l al38;have b46:=aa b37 al38;clear q36 r135 b37 al38
 go_upto_region 15 with fail
 rw[hW39.out];clear hW39;obtain⟨c47,c48,c49,c50,c51⟩:=q41.cs5
 go_wp2_with fail
 refine(HT.out _ _ _ b46 r45).mono ?_;rintro zz w52 ⟨v154,rfl,r155,bb53⟩;have q56:=q44.l bb53;have b57:=aa b46 bb53;obtain⟨so,sc,hv⟩:=r155.shape;subst hv;clear q44 q41 r45 b46 bb53 HT c47 c48 c49 c50 c51;have bu:=((((ag w52 w25.heap.size 0 (yi c)).trans (ag _ w25.heap.size 1 (.bool g))).trans (ag _ w25.heap.size 2 (.bool t.s))).trans (ag _ w25.heap.size 3 (yS so t.n sc))).trans (ag _ w25.heap.size 4 (yi t.e));have q58:au (((((w52.setCell ⟨w25.heap.size,0,none⟩ (yi c)).setCell ⟨w25.heap.size,1,none⟩ (.bool g)).setCell ⟨w25.heap.size,2,none⟩ (.bool t.s)).setCell ⟨w25.heap.size,3,none⟩ (yS so t.n sc)).setCell ⟨w25.heap.size,4,none⟩ (yi t.e)) w25.heap.size 37 (yEL c g t so sc):=(((((q56.set 0 (yi c)).set 1 (.bool g)).set 2 (.bool t.s)).set 3 (yS so t.n sc)).set 4 (yi t.e));have c59:=q56.c 0 rfl;have y60:=q56.f 0;have c61:=q56.c 1 rfl;have y62:=q56.f 1;have c63:=q56.c 2 rfl;have y64:=q56.f 2;have c65:=q56.c 3 rfl;have y66:=q56.f 3;have c67:=q56.c 4 rfl;have y68:=q56.f 4;have r69:=bu.rd r155 (mu r155 q56);have b70:=bu.below b57 (by omega);clear bu
 go_upto_region 16 with fail
 generalize((((w52.setCell ⟨w25.heap.size,0,none⟩ (yi c)).setCell ⟨w25.heap.size,1,none⟩ (.bool g)).setCell ⟨w25.heap.size,2,none⟩ (.bool t.s)).setCell ⟨w25.heap.size,3,none⟩ (yS so t.n sc)).setCell ⟨w25.heap.size,4,none⟩ (yi t.e)=W71 at q58 r69 b70⊢;clear q56 r155 b57 c59 y60 c61 y62 c63 y64 c65 y66 c67 y68
 go_wp2_with fail
 refine(HB.out _ b70).mono ?_;rintro zz w72 ⟨rfl,bb73⟩;have q74:=q58.l bb73;have r75:=r69.l bb73;have b76:=aa b70 bb73;clear q58 r69 b70 bb73 HB;obtain⟨c77,c78,c79,c80,c81⟩:=q74.cs5
 go_wp2_with fail
 refine(HI.out _ _ _ b76 r75).mono ?_;rintro zz w82 ⟨rfl,bb83⟩;have b84:=aa b76 bb83;clear q74 r75 b76 bb83 HI c77 c78 c79 c80 c81
 go_wp2
 go_ret
 exact⟨by simp,b84⟩
theorem fromInt_pos (n k wy f1 e1:Int)(N:Nat)(st:ByteArray)(w:World)(hn: ¬n<0)(hN:IntKind.u64.wrap n=(N:Int))
  (HW: ∀w1,yB w w1→yC 53 #[.int .u64 N] w1 fun z w'=> ∃v,z= .returned v∧Rd w' .u32 v (Dg.dg 4294967296 N)∧yB w1 w')
  (HA: ∀ao ac q w1,yB w w1→Rd w1 .u32 (yT ao N ac) (Dg.dg 4294967296 N)→au w1 q 108 [.int .u32 1]→yC 40 #[yi k,yrV false (yT ao N ac) (.slice (some ⟨q,0,none⟩) 1 1) 0,yi wy] w1 (yR w1 (.tuple #[.string st,yi f1,yi e1]))):
  yC 17 #[yi n,yi k,yi wy] w (yR w (.tuple #[.string st,yi f1,yi e1])):=by
 replace HW:Hid _:=HW;replace HA:Hid _:=HA
 go_enter func17,ntmps17
 have b0:=Below.refl w.heap.size w
 go_wp2_with fail
 refine(HW.out _ b0).mono ?_;rintro zz w1 ⟨v13,rfl,r14,bb2⟩;have b5:=aa b0 bb2;obtain⟨ao,ac,hv⟩:=r14.shape;subst hv;clear b0 bb2 HW;have al6:=af w1 (.cells #[.int .u32 1] 108);have q7:=ah w1 [.int .u32 1] 108;have r8:=r14.l al6;have b9:=aa b5 al6
 go_wp2_with fail
 refine(HA.out _ _ _ _ b9 r8 q7).mono ?_;rintro zz w10 ⟨rfl,bb11⟩;have b12:=aa b9 bb11;clear q7 r8 b9 bb11 HA r14 b5 al6
 go_wp2
 go_ret3
 exact⟨by simp,b12⟩
theorem cwhole_pos (pp:Int)(ex un:Bool)(P:Nat)(po:Option Addr)(pc:Nat)(w:World)(h1: ¬(9223372036854775808:Int)< (P:Int))(h2:((P:Int)==9223372036854775808)=false)(h3:IntKind.i64.wrap P=(P:Int))
  (HW: ∀w1,yB w w1→yC 87 #[yT po P pc] w1 fun z w'=>z= .returned (.int .u64 P)∧w'=w1):
  yC 57 #[ypV false (yT po P pc) pp ex false un] w (yR w (.tuple #[yi P,.bool true])):=by
 replace HW:Hid _:=HW;obtain⟨W3,hW4,q1,b2⟩:=cA w (ypL false (yT po P pc) pp ex false un) 112;replace hW4:Hid _:=hW4
 go_enter func57,ntmps57
 go_upto_region 1 with fail
 rw[hW4.out];clear hW4;have c5:=q1.c 1 rfl
 go_wp2_with fail
 refine(HW.out _ b2).mono ?_;rintro zz w6 ⟨rfl,rfl⟩;clear c5 HW;have c8:=q1.c 0 rfl;have c9:=q1.c 4 rfl
 go_wp2
 go_ret2
 exact⟨by simp,b2⟩
theorem toInt_exact (n wy p pp r:Int)(g ps ov un:Bool)(m P:Nat)(t:ak)(s:ByteArray)(w:World)
  (HQ: ∀w1,yB w w1→yC 39 #[yi n,.string s,yi wy] w1 (CRes w1 2 g m p t 0))
  (HT: ∀xo xc w1,yC 41 #[yDV t xo xc] w1 fun z w'=> ∃eo ec,z= .returned (yrV t.s (yT xo t.n xc) (.slice eo 1 ec) t.e)∧Rd w' .u32 (.slice eo 1 ec) [1]∧yB w1 w')
  (HG: ∀xo xc eo ec w1,yB w w1→Rd w1 .u32 (yT xo t.n xc) (Dg.dg 4294967296 t.n)→Rd w1 .u32 (.slice eo 1 ec) [1]→yC 56 #[yrV t.s (yT xo t.n xc) (.slice eo 1 ec) t.e,ygV 2 64 0 0 true,yi wy] w1 fun z w'=> ∃po pc,z= .returned (.tuple #[ypV ps (yT po P pc) pp true ov un,yi 0])∧Rd w' .u32 (yT po P pc) (Dg.dg 4294967296 P)∧yB w1 w')
  (HH: ∀po pc w1,yB w w1→Rd w1 .u32 (yT po P pc) (Dg.dg 4294967296 P)→yC 57 #[ypV ps (yT po P pc) pp true ov un] w1 (yR w1 (.tuple #[yi r,.bool true]))):
  yC 21 #[yi n,.string s,yi wy] w (yR w (.tuple #[yi r,yi 0,yi 0])):=by
 replace HQ:Hid _:=HQ;replace HT:Hid _:=HT;replace HG:Hid _:=HG;replace HH:Hid _:=HH
 go_enter func21,ntmps21
 have b0:=Below.refl w.heap.size w
 go_wp2_with fail
 refine(HQ.out _ b0).mono ?_;rintro zz w1 ⟨v13,v24,rfl,r15,r26,bb2⟩;have b7:=aa b0 bb2;obtain⟨vo,vc,hv⟩:=r15.shape;subst hv;obtain⟨xo,xc,hv⟩:=r26.shape;subst hv;clear b0 bb2 HQ;obtain⟨W10,hW9,q11,q12,al8⟩:=iG w1 (yvL 2 g (yT vo m vc) p) 77 (yDL t xo xc) 86;replace hW9:Hid _:=hW9;have hl13:w.heap.size≤w1.heap.size:=b7.size;have r14:=r26.l al8;have b15:=aa b7 al8;clear r15 r26 b7 al8
 go_upto_region 2 with fail
 rw[hW9.out];clear hW9;obtain⟨W18,hW17,q19,al16⟩:=cA W10 (ygL 2 64 0 0 true) 26;replace hW17:Hid _:=hW17;have hl20:w.heap.size≤W10.heap.size:=b15.size;have hl21:=q12.lt;have c22:=q11.c 0 rfl;have q23:=q12.l al16;have r24:=r14.l al16;have b25:=aa b15 al16;clear q11 q12 r14 b15 al16
 go_upto_region 7 with fail
 rw[hW17.out];clear c22 hW17
 go_upto_region 7 with fail
 have bW26:yB W18 W18.drew:=(Below.refl _ _).drew;have q27:=q23.l bW26;have q28:=q19.l bW26;have r29:=r24.l bW26;have b30:=aa b25 bW26;clear q23 q19 r24 b25 bW26;refine wp_region_held_drew (S:=fun wq=>au wq (w1.heap.size+1) 86 (yDL t xo xc)∧au wq W10.heap.size 26 (ygL 2 64 0 0 true)) (by kernel_rfl) ⟨q27,q28⟩ (fun hS0=> ?_)
 generalize W18.drew=WD31 at q27 q28 r29 b30 hS0⊢;refine tq 0 (yDV t xo xc) rfl (fun _ hw0=>fy 86 (.tmp 10) rfl (w1.heap.size+1) 0 (by kernel_rfl) _ _ hw0.1.range underlying86 rfl (by kernel_rfl)) hS0 ?_
 refine tq 2 (ygV 2 64 0 0 true) rfl (fun _ hw0=>fy 26 (.tmp 12) rfl W10.heap.size 0 (by kernel_rfl) _ _ hw0.2.range underlying26 rfl (by kernel_rfl)) hS0 ?_
 refine tq 3 (yi wy) rfl (fun _ _=>by kernel_rfl) hS0 ?_
 refine wpAnyH_ready (rs:=[1,8]) (by kernel_rfl) (by simp) ?_;refine AllReadyH.cons rfl (fun K hK=> ?_) (AllReadyH.cons rfl (fun K hK=> ?_) AllReadyH.nil)
 ·go_simp
  refine(HT.out _ _ _).mono ?_;rintro zz w32 ⟨eo,ec,rfl,r134,bb33⟩;have q35:=q27.l bb33;have q36:=q28.l bb33;have r37:=r29.l bb33;have b38:=aa b30 bb33;clear q27 q28 r29 b30 bb33 HT;refine hK.out _ _ ⟨q35,q36⟩ (fun hS39=> ?_)
  clear hK K;refine wpAnyH_ready (rs:=[4,8]) (by kernel_rfl) (by simp) ?_;refine AllReadyH.cons rfl (fun K hK=> ?_) (AllReadyH.cons rfl (fun K hK=> ?_) AllReadyH.nil)
  ·go_simp
   refine(HG.out _ _ _ _ _ b38 r37 r134).mono ?_;rintro zz w40 ⟨po,pc,rfl,r142,bb41⟩;have q43:=q35.l bb41;have q44:=q36.l bb41;have b45:=aa b38 bb41;clear q35 q36 r37 r134 b38 bb41 HG;refine hK.out _ _ ⟨q43,q44⟩ (fun hS46=> ?_)
   clear hK K;refine tq 5 (.tuple #[ypV ps (yT po P pc) pp true ov un,yi 0]) rfl (fun _ _=>by kernel_rfl) hS46 ?_
   refine tq 6 (ypV ps (yT po P pc) pp true ov un) rfl (fun _ _=>by go_simp) hS46 ?_
   refine tq 7 (yi 0) rfl (fun _ _=>by go_simp) hS46 ?_
   refine wpAnyH_ready (rs:=[8]) (by kernel_rfl) (by simp) ?_;refine AllReadyH.cons rfl (fun K hK=> ?_) AllReadyH.nil
   go_simp
   have al47:=af w40 (.cells (ypA false yN 0 false false false) 112);have q48:=ah w40 (ypL false yN 0 false false false) 112;have hl51:w.heap.size≤w40.heap.size:=b45.size;have hl52:=q43.lt;have hl53:=q44.lt;have q54:=q43.l al47;have q55:=q44.l al47;have r56:=r142.l al47;have b57:=aa b45 al47;refine hK.out _ _ ⟨q54,q55⟩ (fun hS58=> ?_)
   clear hK K;clear q43 q44 r142 b45 al47;generalize w40.alloc (.cells (ypA false yN 0 false false false) 112)=WN49 at q54 q55 q48 r56 b57 hS58⊢;generalize w40.heap.size=PQ50 at q48 hl51 hl52 hl53⊢;refine wpAnyH_ready (rs:=[9]) (by kernel_rfl) (by simp) ?_;refine AllReadyH.cons rfl (fun K hK=> ?_) AllReadyH.nil
   have bu:But PQ50 WN49 (WN49.setCells PQ50 0 (ypL ps (yT po P pc) pp true ov un)):=de _ _ _ _;have hth:WN49.there PQ50 0 6:=dD q48;have q59:au (WN49.setCells PQ50 0 (ypL ps (yT po P pc) pp true ov un)) PQ50 112 (ypL ps (yT po P pc) pp true ov un):=q48.sets _ rfl;have r60:=bu.rd r56 (aX r56 q48 (by simp));have q61:=bu.loc q54 (by omega);have q62:=bu.loc q55 (by omega);have b63:=bu.below b57 (by omega);rw[if_pos (by kernel_rfl)];refine wp_store_mid 112 (.tmp 13) (.tmp 42) rfl PQ50 0 (ypA ps (yT po P pc) pp true ov un) (by kernel_rfl) (by kernel_rfl) hth (by kernel_rfl) (by simp[Value.oneCell']) ?_;refine hK.out _ _ ⟨q61,q62⟩ (fun hS64=> ?_)
   clear hK K;clear q48 r56 q54 q55 b57 bu hth;refine tq 10 (yi 0) rfl (fun _ _=>by kernel_rfl) hS64 ?_
   refine wpAnyH_done (by kernel_rfl) ?_ _;clear hS0 hS39 hS46 hS58 hS64;change Exit.then _ _ _ _ (World.setCells WN49 PQ50 0 (ypL ps (yT po P pc) pp true ov un));generalize World.setCells WN49 PQ50 0 (ypL ps (yT po P pc) pp true ov un)=W65 at q61 q62 q59 r60 b63⊢;simp only[Act.put,List.getElem_toArray,List.getElem_cons_succ,List.getElem_cons_zero,List.setIfInBounds_toArray,List.set_cons_zero,List.set_cons_succ];obtain⟨c66,c67,c68,c69,c70,c71⟩:=q59.cs6
   go_wp2_with fail
   refine(HH.out _ _ _ b63 r60).mono ?_;rintro zz w72 ⟨rfl,bb73⟩;have q74:=q59.l bb73;have b75:=aa b63 bb73;clear q61 q62 q59 r60 b63 bb73 HH c66 c67 c68 c69 c70 c71;have c76:=q74.c 3 rfl
   go_wp2
   go_ret3
   exact⟨by simp,b75⟩
  ·go_simp
   have al40:=af w32 (.cells (ypA false yN 0 false false false) 112);have q41:=ah w32 (ypL false yN 0 false false false) 112;have hl44:w.heap.size≤w32.heap.size:=b38.size;have hl45:=q35.lt;have hl46:=q36.lt;have q47:=q35.l al40;have q48:=q36.l al40;have r49:=r37.l al40;have r50:=r134.l al40;have b51:=aa b38 al40;refine hK.out _ _ ⟨q47,q48⟩ (fun hS52=> ?_)
   clear hK K;clear q35 q36 r37 r134 b38 al40;generalize w32.alloc (.cells (ypA false yN 0 false false false) 112)=WN42 at q47 q48 q41 r49 r50 b51 hS52⊢;generalize w32.heap.size=PQ43 at q41 hl44 hl45 hl46⊢;refine wpAnyH_ready (rs:=[4]) (by kernel_rfl) (by simp) ?_;refine AllReadyH.cons rfl (fun K hK=> ?_) AllReadyH.nil
   go_simp
   refine(HG.out _ _ _ _ _ b51 r49 r50).mono ?_;rintro zz w53 ⟨po,pc,rfl,r155,bb54⟩;have q56:=q47.l bb54;have q57:=q48.l bb54;have q58:=q41.l bb54;have b59:=aa b51 bb54;clear q47 q48 q41 r49 r50 b51 bb54 HG;refine hK.out _ _ ⟨q56,q57⟩ (fun hS60=> ?_)
   clear hK K;refine tq 5 (.tuple #[ypV ps (yT po P pc) pp true ov un,yi 0]) rfl (fun _ _=>by kernel_rfl) hS60 ?_
   refine tq 6 (ypV ps (yT po P pc) pp true ov un) rfl (fun _ _=>by go_simp) hS60 ?_
   refine tq 7 (yi 0) rfl (fun _ _=>by go_simp) hS60 ?_
   refine wpAnyH_ready (rs:=[9]) (by kernel_rfl) (by simp) ?_;refine AllReadyH.cons rfl (fun K hK=> ?_) AllReadyH.nil
   have bu:But PQ43 w53 (w53.setCells PQ43 0 (ypL ps (yT po P pc) pp true ov un)):=de _ _ _ _;have hth:w53.there PQ43 0 6:=dD q58;have q61:au (w53.setCells PQ43 0 (ypL ps (yT po P pc) pp true ov un)) PQ43 112 (ypL ps (yT po P pc) pp true ov un):=q58.sets _ rfl;have r62:=bu.rd r155 (aX r155 q58 (by simp));have q63:=bu.loc q56 (by omega);have q64:=bu.loc q57 (by omega);have b65:=bu.below b59 (by omega);rw[if_pos (by kernel_rfl)];refine wp_store_mid 112 (.tmp 13) (.tmp 42) rfl PQ43 0 (ypA ps (yT po P pc) pp true ov un) (by kernel_rfl) (by kernel_rfl) hth (by kernel_rfl) (by simp[Value.oneCell']) ?_;refine hK.out _ _ ⟨q63,q64⟩ (fun hS66=> ?_)
   clear hK K;clear q58 r155 q56 q57 b59 bu hth;refine tq 10 (yi 0) rfl (fun _ _=>by kernel_rfl) hS66 ?_
   refine wpAnyH_done (by kernel_rfl) ?_ _;clear hS0 hS39 hS52 hS60 hS66;change Exit.then _ _ _ _ (World.setCells w53 PQ43 0 (ypL ps (yT po P pc) pp true ov un));generalize World.setCells w53 PQ43 0 (ypL ps (yT po P pc) pp true ov un)=W67 at q63 q64 q61 r62 b65⊢;simp only[Act.put,List.getElem_toArray,List.getElem_cons_succ,List.getElem_cons_zero,List.setIfInBounds_toArray,List.set_cons_zero,List.set_cons_succ];obtain⟨c68,c69,c70,c71,c72,c73⟩:=q61.cs6
   go_wp2_with fail
   refine(HH.out _ _ _ b65 r62).mono ?_;rintro zz w74 ⟨rfl,bb75⟩;have q76:=q61.l bb75;have b77:=aa b65 bb75;clear q63 q64 q61 r62 b65 bb75 HH c68 c69 c70 c71 c72 c73;have c78:=q76.c 3 rfl
   go_wp2
   go_ret3
   exact⟨by simp,b77⟩
 ·go_simp
  have al32:=af WD31 (.cells (ypA false yN 0 false false false) 112);have q33:=ah WD31 (ypL false yN 0 false false false) 112;have hl36:w.heap.size≤WD31.heap.size:=b30.size;have hl37:=q27.lt;have hl38:=q28.lt;have q39:=q27.l al32;have q40:=q28.l al32;have r41:=r29.l al32;have b42:=aa b30 al32;refine hK.out _ _ ⟨q39,q40⟩ (fun hS43=> ?_)
  clear hK K;clear q27 q28 r29 b30 al32;generalize WD31.alloc (.cells (ypA false yN 0 false false false) 112)=WN34 at q39 q40 q33 r41 b42 hS43⊢;generalize WD31.heap.size=PQ35 at q33 hl36 hl37 hl38⊢;refine wpAnyH_ready (rs:=[1]) (by kernel_rfl) (by simp) ?_;refine AllReadyH.cons rfl (fun K hK=> ?_) AllReadyH.nil
  go_simp
  refine(HT.out _ _ _).mono ?_;rintro zz w44 ⟨eo,ec,rfl,r146,bb45⟩;have q47:=q39.l bb45;have q48:=q40.l bb45;have q49:=q33.l bb45;have r50:=r41.l bb45;have b51:=aa b42 bb45;clear q39 q40 q33 r41 b42 bb45 HT;refine hK.out _ _ ⟨q47,q48⟩ (fun hS52=> ?_)
  clear hK K;refine wpAnyH_ready (rs:=[4]) (by kernel_rfl) (by simp) ?_;refine AllReadyH.cons rfl (fun K hK=> ?_) AllReadyH.nil
  go_simp
  refine(HG.out _ _ _ _ _ b51 r50 r146).mono ?_;rintro zz w53 ⟨po,pc,rfl,r155,bb54⟩;have q56:=q47.l bb54;have q57:=q48.l bb54;have q58:=q49.l bb54;have b59:=aa b51 bb54;clear q47 q48 q49 r50 r146 b51 bb54 HG;refine hK.out _ _ ⟨q56,q57⟩ (fun hS60=> ?_)
  clear hK K;refine tq 5 (.tuple #[ypV ps (yT po P pc) pp true ov un,yi 0]) rfl (fun _ _=>by kernel_rfl) hS60 ?_
  refine tq 6 (ypV ps (yT po P pc) pp true ov un) rfl (fun _ _=>by go_simp) hS60 ?_
  refine tq 7 (yi 0) rfl (fun _ _=>by go_simp) hS60 ?_
  refine wpAnyH_ready (rs:=[9]) (by kernel_rfl) (by simp) ?_;refine AllReadyH.cons rfl (fun K hK=> ?_) AllReadyH.nil
  have bu:But PQ35 w53 (w53.setCells PQ35 0 (ypL ps (yT po P pc) pp true ov un)):=de _ _ _ _;have hth:w53.there PQ35 0 6:=dD q58;have q61:au (w53.setCells PQ35 0 (ypL ps (yT po P pc) pp true ov un)) PQ35 112 (ypL ps (yT po P pc) pp true ov un):=q58.sets _ rfl;have r62:=bu.rd r155 (aX r155 q58 (by simp));have q63:=bu.loc q56 (by omega);have q64:=bu.loc q57 (by omega);have b65:=bu.below b59 (by omega);rw[if_pos (by kernel_rfl)];refine wp_store_mid 112 (.tmp 13) (.tmp 42) rfl PQ35 0 (ypA ps (yT po P pc) pp true ov un) (by kernel_rfl) (by kernel_rfl) hth (by kernel_rfl) (by simp[Value.oneCell']) ?_;refine hK.out _ _ ⟨q63,q64⟩ (fun hS66=> ?_)
  clear hK K;clear q58 r155 q56 q57 b59 bu hth;refine tq 10 (yi 0) rfl (fun _ _=>by kernel_rfl) hS66 ?_
  refine wpAnyH_done (by kernel_rfl) ?_ _;clear hS0 hS43 hS52 hS60 hS66;change Exit.then _ _ _ _ (World.setCells w53 PQ35 0 (ypL ps (yT po P pc) pp true ov un));generalize World.setCells w53 PQ35 0 (ypL ps (yT po P pc) pp true ov un)=W67 at q63 q64 q61 r62 b65⊢;simp only[Act.put,List.getElem_toArray,List.getElem_cons_succ,List.getElem_cons_zero,List.setIfInBounds_toArray,List.set_cons_zero,List.set_cons_succ];obtain⟨c68,c69,c70,c71,c72,c73⟩:=q61.cs6
  go_wp2_with fail
  refine(HH.out _ _ _ b65 r62).mono ?_;rintro zz w74 ⟨rfl,bb75⟩;have q76:=q61.l bb75;have b77:=aa b65 bb75;clear q63 q64 q61 r62 b65 bb75 HH c68 c69 c70 c71 c72 c73;have c78:=q76.c 3 rfl
  go_wp2
  go_ret3
  exact⟨by simp,b77⟩
theorem convBegun_W (st:ByteArray)(w:World)(HX:yH w 17 #[yi 3,yi 4,yi 1] (.tuple #[.string st,yi 0,yi 0]))
  (HY:yH w 21 #[yi 4,.string st,yi 1] (.tuple #[yi 3,yi 0,yi 0])):
  yC 15 #[] w (yR w (.bool true)):=by
 replace HX:Hid _:=HX;replace HY:Hid _:=HY
 go_enter func15,ntmps15
 have b0:=Below.refl w.heap.size w
 go_wp2_with fail
 refine(HX.out _ b0).mono ?_;rintro zz w1 ⟨rfl,bb2⟩;have b3:=aa b0 bb2;clear b0 bb2 HX
 go_wp2_with fail
 refine(HY.out _ b3).mono ?_;rintro zz w4 ⟨rfl,bb5⟩;have b6:=aa b3 bb5;clear b3 bb5 HY
 go_wp2
 go_ret
 exact⟨by simp,b6⟩
theorem adR {t:ak}(h:iZ t):bitLen t.n≤64:=bF _ _ h.1
def fitT (k:Nat)(way:Int)(qs:Bool)(xs ys:List Nat)(E:Int):ByteArray×Int×Int:=
 if eE xs ys E (rdN k) (dgN k) (lsI k) (gsI k) way=0 then Dw k (pG k way (df xs ys E (rdN k) (dgN k) (lsI k) (gsI k) (decide (k≤3)) qs way)).1 (pG k way (df xs ys E (rdN k) (dgN k) (lsI k) (gsI k) (decide (k≤3)) qs way)).2.1 (pG k way (df xs ys E (rdN k) (dgN k) (lsI k) (gsI k) (decide (k≤3)) qs way)).2.2.1 (pG k way (df xs ys E (rdN k) (dgN k) (lsI k) (gsI k) (decide (k≤3)) qs way)).2.2.2.1 (pG k way (df xs ys E (rdN k) (dgN k) (lsI k) (gsI k) (decide (k≤3)) qs way)).2.2.2.2
 else(⟨#[]⟩,0,eE xs ys E (rdN k) (dgN k) (lsI k) (gsI k) way)
theorem fit_any (k:Nat)(hk:1≤k∧k≤8)(way:Int)(qs:Bool)(ao:Option Addr)(ca:Nat)(xs:List Nat)(bo:Option Addr)(cb:Nat)(ys:List Nat)(E:Int)(w:World)(ha:Rd w .u32 (.slice ao xs.length ca) xs)(hb:Rd w .u32 (.slice bo ys.length cb) ys)(sa:Dg.Small 4294967296 xs)(sb:Dg.Small 4294967296 ys)(hT:Tab w):
  yC 40 #[yi k,yrV qs (.slice ao xs.length ca) (.slice bo ys.length cb) E,yi way] w (mM (fitT k way qs xs ys E) w):=by
 unfold fitT;have HR:=fun w1 (b:yB w w1)=>jM qs ao ca xs bo cb ys E (rdN k) (dgN k) (lsI k) (gsI k) (decide (k≤3)) way w1 (ha.l b) (hb.l b) sa sb
 have hway:eE xs ys E (rdN k) (dgN k) (lsI k) (gsI k) way=0→1≤way∧way≤5:=fun h=>way_is.1 (Nb h).2.2
 generalize hP:df xs ys E (rdN k) (dgN k) (lsI k) (gsI k) (decide (k≤3)) qs way=P at*;generalize hC:eE xs ys E (rdN k) (dgN k) (lsI k) (gsI k) way=rc at*;exact afx k way (dK k) (rdN k) (dgN k) (lsI k) (gsI k) rc (decide (k≤3)) qs ao xs.length ca bo ys.length cb E P.s P.d P.p P.ex P.ov P.un (pG k way P).1 (pG k way P).2.1 (pG k way P).2.2.1 (pG k way P).2.2.2.1 (pG k way P).2.2.2.2 (Dw k (pG k way P).1 (pG k way P).2.1 (pG k way P).2.2.1 (pG k way P).2.2.2.1 (pG k way P).2.2.2.2).1 (Dw k (pG k way P).1 (pG k way P).2.1 (pG k way P).2.2.1 (pG k way P).2.2.2.1 (pG k way P).2.2.2.2).2.1 (Dw k (pG k way P).1 (pG k way P).2.1 (pG k way P).2.2.1 (pG k way P).2.2.2.1 (pG k way P).2.2.2.2).2.2 _ w (fun h=>by rw[if_neg h]) (fun h=>by rw[if_pos h]) (fun w1=>mp k hk w1) (fun w1 b=>(HR w1 b).mono (fun z w' h=>by
   obtain⟨v,h1,h2,h3⟩:=h;obtain⟨po,pc,e⟩:=h2.rd.shape;subst e;exact⟨po,pc,h1,h2.rd,h3⟩)) (fun h po pc w1 _ r=>Px k hk way (hway h) P po pc w1 r) (fun _ vo vc w1 b r=>CZ k way _ _ _ _ _ vo vc w1 r (hT.l b))
theorem or_set (k:Nat)(wy:Int)(P:fz):bits .or .i64 0 (pG k wy P).2.2.2.2=(pG k wy P).2.2.2.2:=by
 unfold pG
 split
 ·show bits .or .i64 0 5=5
  rfl
 ·split
  ·show bits .or .i64 0 3=3
   rfl
  ·show bits .or .i64 0 (if P.ex=true then 0 else if P.un=true then 3 else 1)=if P.ex=true then 0 else if P.un=true then 3 else 1
   split
   ·rfl
   ·split<;>rfl
def mL (w:World)(b:Nat)(v0 v1 v2 v3 v4 v5:Value):Prop:=
 b<w.heap.size∧(w.cell? ⟨b,0,none⟩=some v0∧w.cell? ⟨b,1,none⟩=some v1∧w.cell? ⟨b,2,none⟩=some v2∧w.cell? ⟨b,3,none⟩=some v3∧w.cell? ⟨b,4,none⟩=some v4∧w.cell? ⟨b,5,none⟩=some v5)∧
  (w.frozen? ⟨b,0,none⟩=false∧w.frozen? ⟨b,1,none⟩=false∧w.frozen? ⟨b,2,none⟩=false∧w.frozen? ⟨b,3,none⟩=false∧w.frozen? ⟨b,4,none⟩=false∧w.frozen? ⟨b,5,none⟩=false)
theorem mL.l {w w':World}{b:Nat}{v0 v1 v2 v3 v4 v5:Value}(h:mL w b v0 v1 v2 v3 v4 v5)(hb:yB w w'):mL w' b v0 v1 v2 v3 v4 v5:=by
 obtain⟨hl,⟨c0,c1,c2,c3,c4,c5⟩,f0,f1,f2,f3,f4,f5⟩:=h;refine⟨Nat.lt_of_lt_of_le hl hb.size,⟨cell_later hb c0,cell_later hb c1,cell_later hb c2,cell_later hb c3,cell_later hb c4,cell_later hb c5⟩, ?_, ?_, ?_, ?_, ?_, ?_⟩
 all_goals rw[hb.frozen (by exact hl)];assumption
def ZB6 (w:World)(b:Nat):Prop:=b<w.heap.size∧ ∃ty,w.heap[b]? =some (.cells #[.bool false,yN,yi 0,.bool false,yN,yi 0] ty (0,0))
theorem ZB6.l {w w':World}{b:Nat}(h:ZB6 w b)(hb:yB w w'):ZB6 w' b:=by
 obtain⟨hl,ty,hh⟩:=h;exact⟨Nat.lt_of_lt_of_le hl hb.size,ty,(hb.block b hl).trans hh⟩
theorem ZB6.rd {w:World}{b:Nat}{v:Value}{zs:List Nat}(h:ZB6 w b)(hr:Rd w .i64 v zs)(hn:Dg.Norm zs)(x0 x1 x2 x3 x4 x5:Value):
  Rd ((((((w.setCell ⟨b,0,none⟩ x0).setCell ⟨b,1,none⟩ x1).setCell ⟨b,2,none⟩ x2).setCell ⟨b,3,none⟩ x3).setCell ⟨b,4,none⟩ x4).setCell ⟨b,5,none⟩ x5) .i64 v zs:=by
 obtain⟨hl,ty,hh⟩:=h;obtain⟨ao,cap,rfl,h1,h2,h3⟩:=hr;refine⟨ao,cap,rfl,h1,h2,fun hp=> ?_⟩
 obtain⟨c,off,rfl,hc⟩:=h3 hp;refine⟨c,off,rfl,fun i hi=> ?_⟩
 have hne:c≠b:=by
  intro e;subst e;have k1:=hc (zs.length-1) (by omega);have hz:=hn (List.length_pos_iff.1 hp);unfold World.cell? at k1;simp only[hh] at k1;obtain⟨o,ho⟩: ∃o,off+(zs.length-1)=o:=⟨_,rfl⟩;rw[ho] at k1;generalize zs.getD (zs.length-1) 0=d at*
  match o,k1 with
  |0,k1=>simp at k1
  |1,k1=>simp at k1
  |2,k1=>simp at k1;omega
  |3,k1=>simp at k1
  |4,k1=>simp at k1
  |5,k1=>simp at k1;omega
  |o+6,k1=>simp at k1
 rw[World.cell?_setCell_other (h:=by simp),World.cell?_setCell_other (h:=by simp),World.cell?_setCell_other (h:=by simp),World.cell?_setCell_other (h:=by simp),World.cell?_setCell_other (h:=by simp),World.cell?_setCell_other (h:=by simp)];exact hc i hi
def bJ (a b:ak):Int:=dJ (aG a (dV b))
def hiI (x:Nat→ak):Nat→Nat
 |0=>0
 |i+1=>if 0<bJ (x (i+1)) (x (hiI x i)) then i+1 else hiI x i
theorem mL.apart3 {w:World}{b c:Nat}{v0 v1 v2 v3 v4 v5:Value}(h:mL w b v0 v1 v2 v3 v4 v5)(hne:c≠b)(x0 x1 x2:Value):
  mL (((w.setCell ⟨c,0,none⟩ x0).setCell ⟨c,1,none⟩ x1).setCell ⟨c,2,none⟩ x2) b v0 v1 v2 v3 v4 v5:=by
 obtain⟨hl,⟨c0,c1,c2,c3,c4,c5⟩,f0,f1,f2,f3,f4,f5⟩:=h;refine⟨by simpa using hl,⟨?_, ?_, ?_, ?_, ?_, ?_⟩,by simpa using f0,by simpa using f1,by simpa using f2,by simpa using f3,by simpa using f4,by simpa using f5⟩
 all_goals (rw[World.cell?_setCell_other (h:=by simp),World.cell?_setCell_other (h:=by simp),World.cell?_setCell_other (h:=by simp)];assumption)
def left (listed:Array Bool):Nat:=(listed.toList.filter (fun b=> !b)).length
def Ag (W:World)(base:Nat)(v:Value):Prop:= ∃p,v= .pointer (some ⟨p,0,none⟩)∧base≤p∧Loc W p (.bool false) yN (yi 0)
theorem Ag.l {W W':World}{base:Nat}{v:Value}(h:Ag W base v)(hb:yB W W'):Ag W' base v:=by
 obtain⟨p,h1,h2,h3⟩:=h;exact⟨p,h1,h2,h3.l hb⟩
def BT (W:World)(base:Nat)(v:Value):Prop:= ∃p,v= .pointer (some ⟨p,0,none⟩)∧base≤p∧mL W p (.bool false) yN (yi 0) (.bool false) yN (yi 0)∧ZB6 W p
def V4 (W:World)(base:Nat)(v:Value):Prop:= ∃p,v= .pointer (some ⟨p,0,none⟩)∧base≤p∧Loc W p (.bool false) yN (yi 0)∧ZB W p
theorem BT.l {W W':World}{base:Nat}{v:Value}(h:BT W base v)(hb:yB W W'):BT W' base v:=by
 obtain⟨p,h1,h2,h3,h4⟩:=h;exact⟨p,h1,h2,h3.l hb,h4.l hb⟩
theorem V4.l {W W':World}{base:Nat}{v:Value}(h:V4 W base v)(hb:yB W W'):V4 W' base v:=by
 obtain⟨p,h1,h2,h3,h4⟩:=h;exact⟨p,h1,h2,h3.l hb,h4.l hb⟩
theorem ZB.off {w w':World}{q b:Nat}(h:ZB w q)(hg:w.grownBy w' (some b))(hne:q≠b):ZB w' q:=by
 obtain⟨hl,ty,hh⟩:=h;exact⟨Nat.lt_of_lt_of_le hl hg.size,ty,(hg.block q hl (by intro e;cases e;exact hne rfl)).trans hh⟩
theorem ZB6.off {w w':World}{q b:Nat}(h:ZB6 w q)(hg:w.grownBy w' (some b))(hne:q≠b):ZB6 w' q:=by
 obtain⟨hl,ty,hh⟩:=h;exact⟨Nat.lt_of_lt_of_le hl hg.size,ty,(hg.block q hl (by intro e;cases e;exact hne rfl)).trans hh⟩
def RB6 (W:World)(v:Value)(x y:ak):Prop:= ∃p q,v= .agg #[.bool x.s,p,yi x.e,.bool y.s,q,yi y.e]∧Rd W .i64 p (Dg.dg 65536 x.n)∧Rd W .i64 q (Dg.dg 65536 y.n)
theorem RB6.l {W W':World}{v:Value}{x y:ak}(h:RB6 W v x y)(hb:yB W W'):RB6 W' v x y:=by
 obtain⟨p,q,h1,h2,h3⟩:=h;exact⟨p,q,h1,h2.l hb,h3.l hb⟩
end Go.Proofs.YtpainhklfoaniaaGreatDoor

/-
  Texts laid together: Se2, Sm1, Se3.
-/
import Derived.Test.YtiakgfmlpdfhdaaDoorSw01
set_option maxRecDepth 100000
set_option maxHeartbeats 3200000
namespace Go.Proofs.YtiakgfmlpdfhdaaDoor
open Go.RowKit
def BRd (w:World)(l h:ak)(er:Int)(z:Ending)(w':World):Prop:=
 ∃p q,z= .returned (.tuple #[.agg #[.bool l.s,p,yi l.e,.bool h.s,q,yi h.e],yi er])∧Rd w' .u32 p (Dg.dg 4294967296 l.n)∧Rd w' .u32 q (Dg.dg 4294967296 h.n)∧yB w w'
theorem toldOk_W (pb:Nat)(x y:ak)(xo yo:Option Addr)(xc yc:Nat)(b:Int)(w:World)(lb:w.rangeAt pb 0 [yi b])
  (HS:yH w 43 #[.agg #[.bool x.s,yT xo x.n xc,yi x.e,.bool y.s,yT yo y.n yc,yi y.e],yi b] (.bool true)):
  yC 42 #[.agg #[.bool x.s,yT xo x.n xc,yi x.e,.bool y.s,yT yo y.n yc,yi y.e],.pointer (some ⟨pb,0,none⟩)] w (yR w (.bool true)):=by
 replace HS:Hid _:=HS;obtain⟨W3,hW4,q1,b2⟩:=cA w [.bool x.s,yT xo x.n xc,yi x.e,.bool y.s,yT yo y.n yc,yi y.e] 68;replace hW4:Hid _:=hW4;have q5:=aC lb b2;clear lb
 go_enter Tryd.func42,Tryd.ntmps42
 go_upto_region 1 with fail
 rw[hW4.out];clear hW4;have c6:=q5 0 _ rfl;obtain⟨c7,c8,c9,c10,c11,c12⟩:=q1.cs6
 go_wp2_with fail
 refine(HS.out _ b2).mono ?_;rintro zz w13 ⟨rfl,bb14⟩;have b15:=aa b2 bb14;clear q5 q1 b2 bb14 HS c6 c7 c8 c9 c10 c11 c12
 go_wp2
 go_ret
 exact⟨by simp,b15⟩
theorem refine_pi (pb:Nat)(x y:ak)(n:Int)(w:World)
  (HK: ∀w1,yB w w1→yC 20 #[yi n] w1 (aeT w1 x y))
  (HG: ∀xo xc yo yc w1,yB w w1→Rd w1 .u32 (yT xo x.n xc) (Dg.dg 4294967296 x.n)→Rd w1 .u32 (yT yo y.n yc) (Dg.dg 4294967296 y.n)→yC 42 #[.agg #[.bool x.s,yT xo x.n xc,yi x.e,.bool y.s,yT yo y.n yc,yi y.e],.pointer (some ⟨pb,0,none⟩)] w1 (yR w1 (.bool true))):
  yC 41 #[yi n,.func (.func 20) #[] #[],.func (.func 42) #[] #[.pointer (some ⟨pb,0,none⟩)]] w (aeT w x y):=by
 replace HK:Hid _:=HK;replace HG:Hid _:=HG;obtain⟨W3,hW4,q1,b2⟩:=cA w [.bool false,yN,yi 0,.bool false,yN,yi 0] 68;replace hW4:Hid _:=hW4
 go_enter Tryd.func41,Tryd.ntmps41
 go_upto_region 1 with fail
 rw[hW4.out];clear hW4
 go_wp2_with fail
 refine(HK.out _ b2).mono ?_;rintro zz w5 ⟨v1x7,v2x8,rfl,r1x9,r2x10,bb6⟩;have q11:=q1.l bb6;have b12:=aa b2 bb6;obtain⟨xo,xc,hv⟩:=r1x9.shape;subst hv;obtain⟨yo,yc,hv⟩:=r2x10.shape;subst hv;clear q1 b2 bb6 HK;obtain⟨W15,hW14,q16,al13⟩:=cA w5 [.bool x.s,yT xo x.n xc,yi x.e,.bool y.s,yT yo y.n yc,yi y.e] 68;replace hW14:Hid _:=hW14;have hl17:w.heap.size≤w5.heap.size:=b12.size;have hl18:=q11.lt;have q19:=q11.l al13;have r20:=r1x9.l al13;have r21:=r2x10.l al13;have b22:=aa b12 al13;clear q11 r1x9 r2x10 b12 al13
 go_wp2_with fail
 rw[hW14.out];clear hW14;have hbb:=b22;have qq0:=q19;have qq1:=q16;have rx:=r20;have ry:=r21;clear q19 q16 r20 r21 b22
 go_wp2
 go_loopw [0] (fun nv wr=>nv=yi n∧wr=W15) (fun _ _=>0)
 case atStart=>exact⟨rfl,rfl⟩
 case round=>
  obtain⟨rfl,hwr⟩:=hrel;subst hwr;obtain⟨c101,c102,c103,c104,c105,c106⟩:=qq1.cs6
  go_wp2_with fail
  refine(HG.out _ _ _ _ _ hbb rx ry).mono ?_;rintro zz w107 ⟨rfl,bb108⟩;have q109:=qq0.l bb108;have q110:=qq1.l bb108;have r111:=rx.l bb108;have r112:=ry.l bb108;have b113:=aa hbb bb108;clear qq0 qq1 rx ry hbb bb108 HG c101 c102 c103 c104 c105 c106;obtain⟨c114,c115,c116,c117,c118,c119⟩:=q110.cs6;have hf:=fin6 (P:=Tryd.prog) q109 b113 (by omega) Tryd.underlying68 rfl (by kernel_rfl) (.bool x.s) (yT xo x.n xc) (yi x.e) (.bool y.s) (yT yo y.n yc) (yi y.e);have HH:Hid (_∧_∧_∧_):=⟨hf.1,hf.2.2.rd r111 (aX r111 q109 (by simp)),hf.2.2.rd r112 (aX r112 q109 (by simp)),hf.2.1⟩;obtain⟨⟨z0,z1,z2,z3,z4,z5⟩,y0,y1,y2,y3,y4,y5⟩:=csf6 q109;clear hf q109 q110 r111 r112 b113
  go_wp2
  obtain⟨hl,rRx,rRy,bR⟩:=HH.out;exact bodyPost_ret (br Tryd.results41 rfl hl) rfl ⟨_,_,rfl,rRx,rRy,bR⟩
theorem refine_ln (pb:Nat)(x y:ak)(n:Int)(w:World)
  (HK: ∀w1,yB w w1→yC 35 #[yi n] w1 (aeT w1 x y))
  (HG: ∀xo xc yo yc w1,yB w w1→Rd w1 .u32 (yT xo x.n xc) (Dg.dg 4294967296 x.n)→Rd w1 .u32 (yT yo y.n yc) (Dg.dg 4294967296 y.n)→yC 42 #[.agg #[.bool x.s,yT xo x.n xc,yi x.e,.bool y.s,yT yo y.n yc,yi y.e],.pointer (some ⟨pb,0,none⟩)] w1 (yR w1 (.bool true))):
  yC 41 #[yi n,.func (.func 35) #[] #[],.func (.func 42) #[] #[.pointer (some ⟨pb,0,none⟩)]] w (aeT w x y):=by
 replace HK:Hid _:=HK;replace HG:Hid _:=HG;obtain⟨W3,hW4,q1,b2⟩:=cA w [.bool false,yN,yi 0,.bool false,yN,yi 0] 68;replace hW4:Hid _:=hW4
 go_enter Tryd.func41,Tryd.ntmps41
 go_upto_region 1 with fail
 rw[hW4.out];clear hW4
 go_wp2_with fail
 refine(HK.out _ b2).mono ?_;rintro zz w5 ⟨v1x7,v2x8,rfl,r1x9,r2x10,bb6⟩;have q11:=q1.l bb6;have b12:=aa b2 bb6;obtain⟨xo,xc,hv⟩:=r1x9.shape;subst hv;obtain⟨yo,yc,hv⟩:=r2x10.shape;subst hv;clear q1 b2 bb6 HK;obtain⟨W15,hW14,q16,al13⟩:=cA w5 [.bool x.s,yT xo x.n xc,yi x.e,.bool y.s,yT yo y.n yc,yi y.e] 68;replace hW14:Hid _:=hW14;have hl17:w.heap.size≤w5.heap.size:=b12.size;have hl18:=q11.lt;have q19:=q11.l al13;have r20:=r1x9.l al13;have r21:=r2x10.l al13;have b22:=aa b12 al13;clear q11 r1x9 r2x10 b12 al13
 go_wp2_with fail
 rw[hW14.out];clear hW14;have hbb:=b22;have qq0:=q19;have qq1:=q16;have rx:=r20;have ry:=r21;clear q19 q16 r20 r21 b22
 go_wp2
 go_loopw [0] (fun nv wr=>nv=yi n∧wr=W15) (fun _ _=>0)
 case atStart=>exact⟨rfl,rfl⟩
 case round=>
  obtain⟨rfl,hwr⟩:=hrel;subst hwr;obtain⟨c101,c102,c103,c104,c105,c106⟩:=qq1.cs6
  go_wp2_with fail
  refine(HG.out _ _ _ _ _ hbb rx ry).mono ?_;rintro zz w107 ⟨rfl,bb108⟩;have q109:=qq0.l bb108;have q110:=qq1.l bb108;have r111:=rx.l bb108;have r112:=ry.l bb108;have b113:=aa hbb bb108;clear qq0 qq1 rx ry hbb bb108 HG c101 c102 c103 c104 c105 c106;obtain⟨c114,c115,c116,c117,c118,c119⟩:=q110.cs6;have hf:=fin6 (P:=Tryd.prog) q109 b113 (by omega) Tryd.underlying68 rfl (by kernel_rfl) (.bool x.s) (yT xo x.n xc) (yi x.e) (.bool y.s) (yT yo y.n yc) (yi y.e);have HH:Hid (_∧_∧_∧_):=⟨hf.1,hf.2.2.rd r111 (aX r111 q109 (by simp)),hf.2.2.rd r112 (aX r112 q109 (by simp)),hf.2.1⟩;obtain⟨⟨z0,z1,z2,z3,z4,z5⟩,y0,y1,y2,y3,y4,y5⟩:=csf6 q109;clear hf q109 q110 r111 r112 b113
  go_wp2
  obtain⟨hl,rRx,rRy,bR⟩:=HH.out;exact bodyPost_ret (br Tryd.results41 rfl hl) rfl ⟨_,_,rfl,rRx,rRy,bR⟩
theorem told_err (b:Int)(f:FuncId)(cp:Array Value)(w:World)(hb:b<10):
  yC 19 #[yi b,.func (.func f) #[] cp] w (yR w (.tuple #[.agg #[.bool false,yN,yi 0,.bool false,yN,yi 0],yi 3])):=by
 obtain⟨W4,hW5,q1,q2,b3⟩:=iG w [yi b] 3 [.bool false,yN,yi 0,.bool false,yN,yi 0] 27;replace hW5:Hid _:=hW5
 go_enter Tryd.func19,Tryd.ntmps19
 go_upto_region 1 with fail
 rw[hW5.out];clear hW5;have c6:=q1.c 0 rfl;have hf:=fin6 (P:=Tryd.prog) q2 b3 (by omega) Tryd.underlying27 rfl (by kernel_rfl) (.bool false) yN (yi 0) (.bool false) yN (yi 0);have HH:Hid (_∧_):=⟨hf.1,hf.2.1⟩;obtain⟨⟨z0,z1,z2,z3,z4,z5⟩,y0,y1,y2,y3,y4,y5⟩:=csf6 q2;clear hf q1 q2 b3
 go_wp2
 obtain⟨hl,bR⟩:=HH.out;exact bodyPost_ret (aj Tryd.results19 rfl rfl hl) rfl ⟨rfl,bR⟩
theorem told_err2 (b:Int)(f:FuncId)(cp:Array Value)(w:World)(h0: ¬b<10)(hb:1000<b):
  yC 19 #[yi b,.func (.func f) #[] cp] w (yR w (.tuple #[.agg #[.bool false,yN,yi 0,.bool false,yN,yi 0],yi 3])):=by
 obtain⟨W4,hW5,q1,q2,b3⟩:=iG w [yi b] 3 [.bool false,yN,yi 0,.bool false,yN,yi 0] 27;replace hW5:Hid _:=hW5
 go_enter Tryd.func19,Tryd.ntmps19
 go_upto_region 1 with fail
 rw[hW5.out];clear hW5;have c6:=q1.c 0 rfl;have hf:=fin6 (P:=Tryd.prog) q2 b3 (by omega) Tryd.underlying27 rfl (by kernel_rfl) (.bool false) yN (yi 0) (.bool false) yN (yi 0);have HH:Hid (_∧_):=⟨hf.1,hf.2.1⟩;obtain⟨⟨z0,z1,z2,z3,z4,z5⟩,y0,y1,y2,y3,y4,y5⟩:=csf6 q2;clear hf q1 q2 b3
 go_wp2
 obtain⟨hl,bR⟩:=HH.out;exact bodyPost_ret (aj Tryd.results19 rfl rfl hl) rfl ⟨rfl,bR⟩
theorem told_pi (x y u v p q:ak)(b n er:Int)(w:World)(h1: ¬b<10)(h2: ¬1000<b)(hn:IntKind.i64.wrap (b+64)=n)
  (HR: ∀pb w1,yB w w1→au w1 pb 3 [yi b]→yC 41 #[yi n,.func (.func 20) #[] #[],.func (.func 42) #[] #[.pointer (some ⟨pb,0,none⟩)]] w1 (aeT w1 x y))
  (HC: ∀xo xc yo yc w1,yB w w1→Rd w1 .u32 (yT xo x.n xc) (Dg.dg 4294967296 x.n)→Rd w1 .u32 (yT yo y.n yc) (Dg.dg 4294967296 y.n)→yC 44 #[.agg #[.bool x.s,yT xo x.n xc,yi x.e,.bool y.s,yT yo y.n yc,yi y.e],yi b] w1 (aeT w1 u v))
  (HH: ∀uo uc vo vc w1,yB w w1→Rd w1 .u32 (yT uo u.n uc) (Dg.dg 4294967296 u.n)→Rd w1 .u32 (yT vo v.n vc) (Dg.dg 4294967296 v.n)→yC 45 #[.agg #[.bool u.s,yT uo u.n uc,yi u.e,.bool v.s,yT vo v.n vc,yi v.e]] w1 (BRd w1 p q er)):
  yC 19 #[yi b,.func (.func 20) #[] #[]] w (BRd w p q er):=by
 replace HR:Hid _:=HR;replace HC:Hid _:=HC;replace HH:Hid _:=HH;obtain⟨W4,hW5,q1,q2,b3⟩:=iG w [yi b] 3 [.bool false,yN,yi 0,.bool false,yN,yi 0] 27;replace hW5:Hid _:=hW5
 go_enter Tryd.func19,Tryd.ntmps19
 go_upto_region 1 with fail
 rw[hW5.out];clear hW5;have c6:=q1.c 0 rfl
 go_wp2_with fail
 refine(HR.out _ _ b3 q1).mono ?_;rintro zz w7 ⟨v1x9,v2x10,rfl,r1x11,r2x12,bb8⟩;have q13:=q1.l bb8;have q14:=q2.l bb8;have b15:=aa b3 bb8;obtain⟨xo,xc,hv⟩:=r1x11.shape;subst hv;obtain⟨yo,yc,hv⟩:=r2x12.shape;subst hv;clear q1 q2 b3 bb8 HR c6;obtain⟨W18,hW17,q19,al16⟩:=cA w7 [.bool x.s,yT xo x.n xc,yi x.e,.bool y.s,yT yo y.n yc,yi y.e] 68;replace hW17:Hid _:=hW17;have hl20:w.heap.size≤w7.heap.size:=b15.size;have hl21:=q13.lt;have hl22:=q14.lt;have q23:=q13.l al16;have q24:=q14.l al16;have r25:=r1x11.l al16;have r26:=r2x12.l al16;have b27:=aa b15 al16;clear q13 q14 r1x11 r2x12 b15 al16
 go_upto_region 4 with fail
 rw[hW17.out];clear hW17;have c28:=q23.c 0 rfl;obtain⟨c29,c30,c31,c32,c33,c34⟩:=q19.cs6
 go_wp2_with fail
 refine(HC.out _ _ _ _ _ b27 r25 r26).mono ?_;rintro zz w35 ⟨v1x37,v2x38,rfl,r1x39,r2x40,bb36⟩;have q41:=q24.l bb36;have r42:=r25.l bb36;have r43:=r26.l bb36;have b44:=aa b27 bb36;obtain⟨uo,uc,hv⟩:=r1x39.shape;subst hv;obtain⟨vo,vc,hv⟩:=r2x40.shape;subst hv;clear q23 q24 q19 r25 r26 b27 bb36 HC c28 c29 c30 c31 c32 c33 c34
 go_wp2_with fail
 refine(HH.out _ _ _ _ _ b44 r1x39 r2x40).mono ?_;rintro zz w45 ⟨v1x47,v2x48,rfl,r1x49,r2x50,bb46⟩;have q51:=q41.l bb46;have r52:=r42.l bb46;have r53:=r43.l bb46;have r54:=r1x39.l bb46;have r55:=r2x40.l bb46;have b56:=aa b44 bb46;obtain⟨po,pc,hv⟩:=r1x49.shape;subst hv;obtain⟨qo,qc,hv⟩:=r2x50.shape;subst hv;clear q41 r42 r43 r1x39 r2x40 b44 bb46 HH;have hf:=fin6 (P:=Tryd.prog) q51 b56 (by omega) Tryd.underlying27 rfl (by kernel_rfl) (.bool p.s) (yT po p.n pc) (yi p.e) (.bool q.s) (yT qo q.n qc) (yi q.e);have HH:Hid (_∧_∧_∧_):=⟨hf.1,hf.2.2.rd r1x49 (aX r1x49 q51 (by simp)),hf.2.2.rd r2x50 (aX r2x50 q51 (by simp)),hf.2.1⟩;obtain⟨⟨z0,z1,z2,z3,z4,z5⟩,y0,y1,y2,y3,y4,y5⟩:=csf6 q51;clear hf q51 r52 r53 r54 r55 r1x49 r2x50 b56
 go_wp2
 obtain⟨hl,rRp,rRq,bR⟩:=HH.out;exact bodyPost_ret (aj Tryd.results19 rfl rfl hl) rfl ⟨_,_,rfl,rRp,rRq,bR⟩
theorem told_ln (x y u v p q:ak)(b n er:Int)(w:World)(h1: ¬b<10)(h2: ¬1000<b)(hn:IntKind.i64.wrap (b+64)=n)
  (HR: ∀pb w1,yB w w1→au w1 pb 3 [yi b]→yC 41 #[yi n,.func (.func 35) #[] #[],.func (.func 42) #[] #[.pointer (some ⟨pb,0,none⟩)]] w1 (aeT w1 x y))
  (HC: ∀xo xc yo yc w1,yB w w1→Rd w1 .u32 (yT xo x.n xc) (Dg.dg 4294967296 x.n)→Rd w1 .u32 (yT yo y.n yc) (Dg.dg 4294967296 y.n)→yC 44 #[.agg #[.bool x.s,yT xo x.n xc,yi x.e,.bool y.s,yT yo y.n yc,yi y.e],yi b] w1 (aeT w1 u v))
  (HH: ∀uo uc vo vc w1,yB w w1→Rd w1 .u32 (yT uo u.n uc) (Dg.dg 4294967296 u.n)→Rd w1 .u32 (yT vo v.n vc) (Dg.dg 4294967296 v.n)→yC 45 #[.agg #[.bool u.s,yT uo u.n uc,yi u.e,.bool v.s,yT vo v.n vc,yi v.e]] w1 (BRd w1 p q er)):
  yC 19 #[yi b,.func (.func 35) #[] #[]] w (BRd w p q er):=by
 replace HR:Hid _:=HR;replace HC:Hid _:=HC;replace HH:Hid _:=HH;obtain⟨W4,hW5,q1,q2,b3⟩:=iG w [yi b] 3 [.bool false,yN,yi 0,.bool false,yN,yi 0] 27;replace hW5:Hid _:=hW5
 go_enter Tryd.func19,Tryd.ntmps19
 go_upto_region 1 with fail
 rw[hW5.out];clear hW5;have c6:=q1.c 0 rfl
 go_wp2_with fail
 refine(HR.out _ _ b3 q1).mono ?_;rintro zz w7 ⟨v1x9,v2x10,rfl,r1x11,r2x12,bb8⟩;have q13:=q1.l bb8;have q14:=q2.l bb8;have b15:=aa b3 bb8;obtain⟨xo,xc,hv⟩:=r1x11.shape;subst hv;obtain⟨yo,yc,hv⟩:=r2x12.shape;subst hv;clear q1 q2 b3 bb8 HR c6;obtain⟨W18,hW17,q19,al16⟩:=cA w7 [.bool x.s,yT xo x.n xc,yi x.e,.bool y.s,yT yo y.n yc,yi y.e] 68;replace hW17:Hid _:=hW17;have hl20:w.heap.size≤w7.heap.size:=b15.size;have hl21:=q13.lt;have hl22:=q14.lt;have q23:=q13.l al16;have q24:=q14.l al16;have r25:=r1x11.l al16;have r26:=r2x12.l al16;have b27:=aa b15 al16;clear q13 q14 r1x11 r2x12 b15 al16
 go_upto_region 4 with fail
 rw[hW17.out];clear hW17;have c28:=q23.c 0 rfl;obtain⟨c29,c30,c31,c32,c33,c34⟩:=q19.cs6
 go_wp2_with fail
 refine(HC.out _ _ _ _ _ b27 r25 r26).mono ?_;rintro zz w35 ⟨v1x37,v2x38,rfl,r1x39,r2x40,bb36⟩;have q41:=q24.l bb36;have r42:=r25.l bb36;have r43:=r26.l bb36;have b44:=aa b27 bb36;obtain⟨uo,uc,hv⟩:=r1x39.shape;subst hv;obtain⟨vo,vc,hv⟩:=r2x40.shape;subst hv;clear q23 q24 q19 r25 r26 b27 bb36 HC c28 c29 c30 c31 c32 c33 c34
 go_wp2_with fail
 refine(HH.out _ _ _ _ _ b44 r1x39 r2x40).mono ?_;rintro zz w45 ⟨v1x47,v2x48,rfl,r1x49,r2x50,bb46⟩;have q51:=q41.l bb46;have r52:=r42.l bb46;have r53:=r43.l bb46;have r54:=r1x39.l bb46;have r55:=r2x40.l bb46;have b56:=aa b44 bb46;obtain⟨po,pc,hv⟩:=r1x49.shape;subst hv;obtain⟨qo,qc,hv⟩:=r2x50.shape;subst hv;clear q41 r42 r43 r1x39 r2x40 b44 bb46 HH;have hf:=fin6 (P:=Tryd.prog) q51 b56 (by omega) Tryd.underlying27 rfl (by kernel_rfl) (.bool p.s) (yT po p.n pc) (yi p.e) (.bool q.s) (yT qo q.n qc) (yi q.e);have HH:Hid (_∧_∧_∧_):=⟨hf.1,hf.2.2.rd r1x49 (aX r1x49 q51 (by simp)),hf.2.2.rd r2x50 (aX r2x50 q51 (by simp)),hf.2.1⟩;obtain⟨⟨z0,z1,z2,z3,z4,z5⟩,y0,y1,y2,y3,y4,y5⟩:=csf6 q51;clear hf q51 r52 r53 r54 r55 r1x49 r2x50 b56
 go_wp2
 obtain⟨hl,rRp,rRq,bR⟩:=HH.out;exact bodyPost_ret (aj Tryd.results19 rfl rfl hl) rfl ⟨_,_,rfl,rRp,rRq,bR⟩
theorem serPi_W (p q:ak)(b er:Int)(w:World)
  (HT: ∀w1,yB w w1→yC 19 #[yi b,.func (.func 20) #[] #[]] w1 (BRd w1 p q er)):
  yC 7 #[yi b] w (BRd w p q er):=by
 replace HT:Hid _:=HT;obtain⟨W3,hW4,q1,b2⟩:=cA w [.bool false,yN,yi 0,.bool false,yN,yi 0] 27;replace hW4:Hid _:=hW4
 go_enter Tryd.func7,Tryd.ntmps7
 go_upto_region 1 with fail
 rw[hW4.out];clear hW4
 go_wp2_with fail
 refine(HT.out _ b2).mono ?_;rintro zz w5 ⟨v1x7,v2x8,rfl,r1x9,r2x10,bb6⟩;have q11:=q1.l bb6;have b12:=aa b2 bb6;obtain⟨po,pc,hv⟩:=r1x9.shape;subst hv;obtain⟨qo,qc,hv⟩:=r2x10.shape;subst hv;clear q1 b2 bb6 HT;have hf:=fin6 (P:=Tryd.prog) q11 b12 (by omega) Tryd.underlying27 rfl (by kernel_rfl) (.bool p.s) (yT po p.n pc) (yi p.e) (.bool q.s) (yT qo q.n qc) (yi q.e);have HH:Hid (_∧_∧_∧_):=⟨hf.1,hf.2.2.rd r1x9 (aX r1x9 q11 (by simp)),hf.2.2.rd r2x10 (aX r2x10 q11 (by simp)),hf.2.1⟩;obtain⟨⟨z0,z1,z2,z3,z4,z5⟩,y0,y1,y2,y3,y4,y5⟩:=csf6 q11;clear hf q11 r1x9 r2x10 b12
 go_wp2
 obtain⟨hl,rRp,rRq,bR⟩:=HH.out;exact bodyPost_ret (aj Tryd.results7 rfl rfl hl) rfl ⟨_,_,rfl,rRp,rRq,bR⟩
theorem serLn2_W (p q:ak)(b er:Int)(w:World)
  (HT: ∀w1,yB w w1→yC 19 #[yi b,.func (.func 35) #[] #[]] w1 (BRd w1 p q er)):
  yC 13 #[yi b] w (BRd w p q er):=by
 replace HT:Hid _:=HT;obtain⟨W3,hW4,q1,b2⟩:=cA w [.bool false,yN,yi 0,.bool false,yN,yi 0] 27;replace hW4:Hid _:=hW4
 go_enter Tryd.func13,Tryd.ntmps13
 go_upto_region 1 with fail
 rw[hW4.out];clear hW4
 go_wp2_with fail
 refine(HT.out _ b2).mono ?_;rintro zz w5 ⟨v1x7,v2x8,rfl,r1x9,r2x10,bb6⟩;have q11:=q1.l bb6;have b12:=aa b2 bb6;obtain⟨po,pc,hv⟩:=r1x9.shape;subst hv;obtain⟨qo,qc,hv⟩:=r2x10.shape;subst hv;clear q1 b2 bb6 HT;have hf:=fin6 (P:=Tryd.prog) q11 b12 (by omega) Tryd.underlying27 rfl (by kernel_rfl) (.bool p.s) (yT po p.n pc) (yi p.e) (.bool q.s) (yT qo q.n qc) (yi q.e);have HH:Hid (_∧_∧_∧_):=⟨hf.1,hf.2.2.rd r1x9 (aX r1x9 q11 (by simp)),hf.2.2.rd r2x10 (aX r2x10 q11 (by simp)),hf.2.1⟩;obtain⟨⟨z0,z1,z2,z3,z4,z5⟩,y0,y1,y2,y3,y4,y5⟩:=csf6 q11;clear hf q11 r1x9 r2x10 b12
 go_wp2
 obtain⟨hl,rRp,rRq,bR⟩:=HH.out;exact bodyPost_ret (aj Tryd.results13 rfl rfl hl) rfl ⟨_,_,rfl,rRp,rRq,bR⟩
theorem sumsAtan_W (x y:ak)(n k:Int)(w:World)
  (HI: ∀w1,yB w w1→yC 60 #[yi n,yi k,yi 1] w1 (aeT w1 x y)):
  yC 40 #[yi n,yi k] w (aeT w x y):=by
 replace HI:Hid _:=HI;obtain⟨W3,hW4,q1,b2⟩:=cA w [.bool false,yN,yi 0,.bool false,yN,yi 0] 68;replace hW4:Hid _:=hW4
 go_enter Tryd.func40,Tryd.ntmps40
 go_upto_region 1 with fail
 rw[hW4.out];clear hW4
 go_wp2_with fail
 refine(HI.out _ b2).mono ?_;rintro zz w5 ⟨v1x7,v2x8,rfl,r1x9,r2x10,bb6⟩;have q11:=q1.l bb6;have b12:=aa b2 bb6;obtain⟨xo,xc,hv⟩:=r1x9.shape;subst hv;obtain⟨yo,yc,hv⟩:=r2x10.shape;subst hv;clear q1 b2 bb6 HI;have hf:=fin6 (P:=Tryd.prog) q11 b12 (by omega) Tryd.underlying68 rfl (by kernel_rfl) (.bool x.s) (yT xo x.n xc) (yi x.e) (.bool y.s) (yT yo y.n yc) (yi y.e);have HH:Hid (_∧_∧_∧_):=⟨hf.1,hf.2.2.rd r1x9 (aX r1x9 q11 (by simp)),hf.2.2.rd r2x10 (aX r2x10 q11 (by simp)),hf.2.1⟩;obtain⟨⟨z0,z1,z2,z3,z4,z5⟩,y0,y1,y2,y3,y4,y5⟩:=csf6 q11;clear hf q11 r1x9 r2x10 b12
 go_wp2
 obtain⟨hl,rRx,rRy,bR⟩:=HH.out;exact bodyPost_ret (br Tryd.results40 rfl hl) rfl ⟨_,_,rfl,rRx,rRy,bR⟩
theorem sumsAtanh_W (x y:ak)(n k:Int)(w:World)
  (HI: ∀w1,yB w w1→yC 60 #[yi n,yi k,yi 0] w1 (aeT w1 x y)):
  yC 39 #[yi n,yi k] w (aeT w x y):=by
 replace HI:Hid _:=HI;obtain⟨W3,hW4,q1,b2⟩:=cA w [.bool false,yN,yi 0,.bool false,yN,yi 0] 68;replace hW4:Hid _:=hW4
 go_enter Tryd.func39,Tryd.ntmps39
 go_upto_region 1 with fail
 rw[hW4.out];clear hW4
 go_wp2_with fail
 refine(HI.out _ b2).mono ?_;rintro zz w5 ⟨v1x7,v2x8,rfl,r1x9,r2x10,bb6⟩;have q11:=q1.l bb6;have b12:=aa b2 bb6;obtain⟨xo,xc,hv⟩:=r1x9.shape;subst hv;obtain⟨yo,yc,hv⟩:=r2x10.shape;subst hv;clear q1 b2 bb6 HI;have hf:=fin6 (P:=Tryd.prog) q11 b12 (by omega) Tryd.underlying68 rfl (by kernel_rfl) (.bool x.s) (yT xo x.n xc) (yi x.e) (.bool y.s) (yT yo y.n yc) (yi y.e);have HH:Hid (_∧_∧_∧_):=⟨hf.1,hf.2.2.rd r1x9 (aX r1x9 q11 (by simp)),hf.2.2.rd r2x10 (aX r2x10 q11 (by simp)),hf.2.1⟩;obtain⟨⟨z0,z1,z2,z3,z4,z5⟩,y0,y1,y2,y3,y4,y5⟩:=csf6 q11;clear hf q11 r1x9 r2x10 b12
 go_wp2
 obtain⟨hl,rRx,rRy,bR⟩:=HH.out;exact bodyPost_ret (br Tryd.results39 rfl hl) rfl ⟨_,_,rfl,rRx,rRy,bR⟩
theorem sumsPi_W (a b p q x y:ak)(k ae be pe qe:Int)(w:World)
  (H1: ∀w1,yB w w1→yC 40 #[yi 5,yi k] w1 (aeT w1 a b))
  (H2: ∀ao ac bo bc w1,yC 46 #[.agg #[.bool a.s,yT ao a.n ac,yi a.e,.bool b.s,yT bo b.n bc,yi b.e],yi 4] w1 (yR w1 (.agg #[.bool a.s,yT ao a.n ac,yi ae,.bool b.s,yT bo b.n bc,yi be])))
  (H3: ∀w1,yB w w1→yC 40 #[yi 239,yi k] w1 (aeT w1 p q))
  (H4: ∀po pc qo qc w1,yC 46 #[.agg #[.bool p.s,yT po p.n pc,yi p.e,.bool q.s,yT qo q.n qc,yi q.e],yi 2] w1 (yR w1 (.agg #[.bool p.s,yT po p.n pc,yi pe,.bool q.s,yT qo q.n qc,yi qe])))
  (H5: ∀ao ac bo bc po pc qo qc w1,yB w w1→Rd w1 .u32 (yT ao a.n ac) (Dg.dg 4294967296 a.n)→Rd w1 .u32 (yT bo b.n bc) (Dg.dg 4294967296 b.n)→Rd w1 .u32 (yT po p.n pc) (Dg.dg 4294967296 p.n)→Rd w1 .u32 (yT qo q.n qc) (Dg.dg 4294967296 q.n)→yC 47 #[.agg #[.bool a.s,yT ao a.n ac,yi ae,.bool b.s,yT bo b.n bc,yi be],.agg #[.bool p.s,yT po p.n pc,yi pe,.bool q.s,yT qo q.n qc,yi qe]] w1 (aeT w1 x y)):
  yC 20 #[yi k] w (aeT w x y):=by
 replace H1:Hid _:=H1;replace H2:Hid _:=H2;replace H3:Hid _:=H3;replace H4:Hid _:=H4;replace H5:Hid _:=H5;obtain⟨W3,hW4,q1,b2⟩:=cA w [.bool false,yN,yi 0,.bool false,yN,yi 0] 68;replace hW4:Hid _:=hW4
 go_enter Tryd.func20,Tryd.ntmps20
 go_upto_region 1 with fail
 rw[hW4.out];clear hW4
 go_wp2_with fail
 refine(H1.out _ b2).mono ?_;rintro zz w5 ⟨v1x7,v2x8,rfl,r1x9,r2x10,bb6⟩;have q11:=q1.l bb6;have b12:=aa b2 bb6;obtain⟨ao,ac,hv⟩:=r1x9.shape;subst hv;obtain⟨bo,bc,hv⟩:=r2x10.shape;subst hv;clear q1 b2 bb6 H1
 go_wp2_with fail
 refine(H2.out _ _ _ _ _).mono ?_;rintro zz w13 ⟨rfl,bb14⟩;have q15:=q11.l bb14;have r16:=r1x9.l bb14;have r17:=r2x10.l bb14;have b18:=aa b12 bb14;clear q11 r1x9 r2x10 b12 bb14 H2
 go_wp2_with fail
 refine(H3.out _ b18).mono ?_;rintro zz w19 ⟨v1x21,v2x22,rfl,r1x23,r2x24,bb20⟩;have q25:=q15.l bb20;have r26:=r16.l bb20;have r27:=r17.l bb20;have b28:=aa b18 bb20;obtain⟨po,pc,hv⟩:=r1x23.shape;subst hv;obtain⟨qo,qc,hv⟩:=r2x24.shape;subst hv;clear q15 r16 r17 b18 bb20 H3
 go_wp2_with fail
 refine(H4.out _ _ _ _ _).mono ?_;rintro zz w29 ⟨rfl,bb30⟩;have q31:=q25.l bb30;have r32:=r26.l bb30;have r33:=r27.l bb30;have r34:=r1x23.l bb30;have r35:=r2x24.l bb30;have b36:=aa b28 bb30;clear q25 r26 r27 r1x23 r2x24 b28 bb30 H4
 go_wp2_with fail
 refine(H5.out _ _ _ _ _ _ _ _ _ b36 r32 r33 r34 r35).mono ?_;rintro zz w37 ⟨v1x39,v2x40,rfl,r1x41,r2x42,bb38⟩;have q43:=q31.l bb38;have r44:=r32.l bb38;have r45:=r33.l bb38;have r46:=r34.l bb38;have r47:=r35.l bb38;have b48:=aa b36 bb38;obtain⟨xo,xc,hv⟩:=r1x41.shape;subst hv;obtain⟨yo,yc,hv⟩:=r2x42.shape;subst hv;clear q31 r32 r33 r34 r35 b36 bb38 H5;have hf:=fin6 (P:=Tryd.prog) q43 b48 (by omega) Tryd.underlying68 rfl (by kernel_rfl) (.bool x.s) (yT xo x.n xc) (yi x.e) (.bool y.s) (yT yo y.n yc) (yi y.e);have HH:Hid (_∧_∧_∧_):=⟨hf.1,hf.2.2.rd r1x41 (aX r1x41 q43 (by simp)),hf.2.2.rd r2x42 (aX r2x42 q43 (by simp)),hf.2.1⟩;obtain⟨⟨z0,z1,z2,z3,z4,z5⟩,y0,y1,y2,y3,y4,y5⟩:=csf6 q43;clear hf q43 r44 r45 r46 r47 r1x41 r2x42 b48
 go_wp2
 obtain⟨hl,rRx,rRy,bR⟩:=HH.out;exact bodyPost_ret (br Tryd.results20 rfl hl) rfl ⟨_,_,rfl,rRx,rRy,bR⟩
theorem sumsLn2_W (a b c m n p q r s u v x y:ak)(k pe qe re se:Int)(w:World)
  (H1: ∀w1,yB w w1→yC 39 #[yi 26,yi k] w1 (aeT w1 a b))
  (H2: ∀w1,yB w w1→yC 57 #[yi 18] w1 (aeT w1 c c))
  (H3: ∀ao ac bo bc co cc eo ec w1,yB w w1→Rd w1 .u32 (yT ao a.n ac) (Dg.dg 4294967296 a.n)→Rd w1 .u32 (yT bo b.n bc) (Dg.dg 4294967296 b.n)→Rd w1 .u32 (yT co c.n cc) (Dg.dg 4294967296 c.n)→Rd w1 .u32 (yT eo c.n ec) (Dg.dg 4294967296 c.n)→yC 56 #[.agg #[.bool a.s,yT ao a.n ac,yi a.e,.bool b.s,yT bo b.n bc,yi b.e],.agg #[.bool c.s,yT co c.n cc,yi c.e,.bool c.s,yT eo c.n ec,yi c.e]] w1 (aeT w1 m n))
  (H4: ∀w1,yB w w1→yC 39 #[yi 4801,yi k] w1 (aeT w1 p q))
  (H5: ∀po pc qo qc w1,yC 46 #[.agg #[.bool p.s,yT po p.n pc,yi p.e,.bool q.s,yT qo q.n qc,yi q.e],yi 1] w1 (yR w1 (.agg #[.bool p.s,yT po p.n pc,yi pe,.bool q.s,yT qo q.n qc,yi qe])))
  (H6: ∀w1,yB w w1→yC 39 #[yi 8749,yi k] w1 (aeT w1 r s))
  (H7: ∀ro rc so sc w1,yC 46 #[.agg #[.bool r.s,yT ro r.n rc,yi r.e,.bool s.s,yT so s.n sc,yi s.e],yi 3] w1 (yR w1 (.agg #[.bool r.s,yT ro r.n rc,yi re,.bool s.s,yT so s.n sc,yi se])))
  (H8: ∀mo mc no nc po pc qo qc w1,yB w w1→Rd w1 .u32 (yT mo m.n mc) (Dg.dg 4294967296 m.n)→Rd w1 .u32 (yT no n.n nc) (Dg.dg 4294967296 n.n)→Rd w1 .u32 (yT po p.n pc) (Dg.dg 4294967296 p.n)→Rd w1 .u32 (yT qo q.n qc) (Dg.dg 4294967296 q.n)→yC 47 #[.agg #[.bool m.s,yT mo m.n mc,yi m.e,.bool n.s,yT no n.n nc,yi n.e],.agg #[.bool p.s,yT po p.n pc,yi pe,.bool q.s,yT qo q.n qc,yi qe]] w1 (aeT w1 u v))
  (H9: ∀uo uc vo vc ro rc so sc w1,yB w w1→Rd w1 .u32 (yT uo u.n uc) (Dg.dg 4294967296 u.n)→Rd w1 .u32 (yT vo v.n vc) (Dg.dg 4294967296 v.n)→Rd w1 .u32 (yT ro r.n rc) (Dg.dg 4294967296 r.n)→Rd w1 .u32 (yT so s.n sc) (Dg.dg 4294967296 s.n)→yC 58 #[.agg #[.bool u.s,yT uo u.n uc,yi u.e,.bool v.s,yT vo v.n vc,yi v.e],.agg #[.bool r.s,yT ro r.n rc,yi re,.bool s.s,yT so s.n sc,yi se]] w1 (aeT w1 x y)):
  yC 35 #[yi k] w (aeT w x y):=by
 replace H1:Hid _:=H1;replace H2:Hid _:=H2;replace H3:Hid _:=H3;replace H4:Hid _:=H4;replace H5:Hid _:=H5;replace H6:Hid _:=H6;replace H7:Hid _:=H7;replace H8:Hid _:=H8;replace H9:Hid _:=H9;obtain⟨W3,hW4,q1,b2⟩:=cA w [.bool false,yN,yi 0,.bool false,yN,yi 0] 68;replace hW4:Hid _:=hW4
 go_enter Tryd.func35,Tryd.ntmps35
 go_upto_region 1 with fail
 rw[hW4.out];clear hW4
 go_wp2_with fail
 refine(H1.out _ b2).mono ?_;rintro zz w5 ⟨v1x7,v2x8,rfl,r1x9,r2x10,bb6⟩;have q11:=q1.l bb6;have b12:=aa b2 bb6;obtain⟨ao,ac,hv⟩:=r1x9.shape;subst hv;obtain⟨bo,bc,hv⟩:=r2x10.shape;subst hv;clear q1 b2 bb6 H1
 go_wp2_with fail
 refine(H2.out _ b12).mono ?_;rintro zz w13 ⟨v1x15,v2x16,rfl,r1x17,r2x18,bb14⟩;have q19:=q11.l bb14;have r20:=r1x9.l bb14;have r21:=r2x10.l bb14;have b22:=aa b12 bb14;obtain⟨co,cc,hv⟩:=r1x17.shape;subst hv;obtain⟨eo,ec,hv⟩:=r2x18.shape;subst hv;clear q11 r1x9 r2x10 b12 bb14 H2
 go_wp2_with fail
 refine(H3.out _ _ _ _ _ _ _ _ _ b22 r20 r21 r1x17 r2x18).mono ?_;rintro zz w23 ⟨v1x25,v2x26,rfl,r1x27,r2x28,bb24⟩;have q29:=q19.l bb24;have r30:=r20.l bb24;have r31:=r21.l bb24;have r32:=r1x17.l bb24;have r33:=r2x18.l bb24;have b34:=aa b22 bb24;obtain⟨mo,mc,hv⟩:=r1x27.shape;subst hv;obtain⟨no,nc,hv⟩:=r2x28.shape;subst hv;clear q19 r20 r21 r1x17 r2x18 b22 bb24 H3
 go_wp2_with fail
 refine(H4.out _ b34).mono ?_;rintro zz w35 ⟨v1x37,v2x38,rfl,r1x39,r2x40,bb36⟩;have q41:=q29.l bb36;have r42:=r30.l bb36;have r43:=r31.l bb36;have r44:=r32.l bb36;have r45:=r33.l bb36;have r46:=r1x27.l bb36;have r47:=r2x28.l bb36;have b48:=aa b34 bb36;obtain⟨po,pc,hv⟩:=r1x39.shape;subst hv;obtain⟨qo,qc,hv⟩:=r2x40.shape;subst hv;clear q29 r30 r31 r32 r33 r1x27 r2x28 b34 bb36 H4
 go_wp2_with fail
 refine(H5.out _ _ _ _ _).mono ?_;rintro zz w49 ⟨rfl,bb50⟩;have q51:=q41.l bb50;have r52:=r42.l bb50;have r53:=r43.l bb50;have r54:=r44.l bb50;have r55:=r45.l bb50;have r56:=r46.l bb50;have r57:=r47.l bb50;have r58:=r1x39.l bb50;have r59:=r2x40.l bb50;have b60:=aa b48 bb50;clear q41 r42 r43 r44 r45 r46 r47 r1x39 r2x40 b48 bb50 H5
 go_wp2_with fail
 refine(H6.out _ b60).mono ?_;rintro zz w61 ⟨v1x63,v2x64,rfl,r1x65,r2x66,bb62⟩;have q67:=q51.l bb62;have r68:=r52.l bb62;have r69:=r53.l bb62;have r70:=r54.l bb62;have r71:=r55.l bb62;have r72:=r56.l bb62;have r73:=r57.l bb62;have r74:=r58.l bb62;have r75:=r59.l bb62;have b76:=aa b60 bb62;obtain⟨ro,rc,hv⟩:=r1x65.shape;subst hv;obtain⟨so,sc,hv⟩:=r2x66.shape;subst hv;clear q51 r52 r53 r54 r55 r56 r57 r58 r59 b60 bb62 H6
 go_wp2_with fail
 refine(H7.out _ _ _ _ _).mono ?_;rintro zz w77 ⟨rfl,bb78⟩;have q79:=q67.l bb78;have r80:=r68.l bb78;have r81:=r69.l bb78;have r82:=r70.l bb78;have r83:=r71.l bb78;have r84:=r72.l bb78;have r85:=r73.l bb78;have r86:=r74.l bb78;have r87:=r75.l bb78;have r88:=r1x65.l bb78;have r89:=r2x66.l bb78;have b90:=aa b76 bb78;clear q67 r68 r69 r70 r71 r72 r73 r74 r75 r1x65 r2x66 b76 bb78 H7;obtain⟨W93,hW92,q94,q95,q96,al91⟩:=lG w77 [.bool m.s,yT mo m.n mc,yi m.e,.bool n.s,yT no n.n nc,yi n.e] 68 [.bool p.s,yT po p.n pc,yi pe,.bool q.s,yT qo q.n qc,yi qe] 68 [.bool r.s,yT ro r.n rc,yi re,.bool s.s,yT so s.n sc,yi se] 68;replace hW92:Hid _:=hW92;have hl97:w.heap.size≤w77.heap.size:=b90.size;have hl98:=q79.lt;have q99:=q79.l al91;have r100:=r80.l al91;have r101:=r81.l al91;have r102:=r82.l al91;have r103:=r83.l al91;have r104:=r84.l al91;have r105:=r85.l al91;have r106:=r86.l al91;have r107:=r87.l al91;have r108:=r88.l al91;have r109:=r89.l al91;have b110:=aa b90 al91;clear q79 r80 r81 r82 r83 r84 r85 r86 r87 r88 r89 b90 al91
 go_upto_region 2 with fail
 rw[hW92.out];clear hW92
 go_upto_region 2 with fail
 have bW111:yB W93 W93.drew:=(Below.refl _ _).drew;have q112:=q99.l bW111;have q113:=q94.l bW111;have q114:=q95.l bW111;have q115:=q96.l bW111;have r116:=r100.l bW111;have r117:=r101.l bW111;have r118:=r102.l bW111;have r119:=r103.l bW111;have r120:=r104.l bW111;have r121:=r105.l bW111;have r122:=r106.l bW111;have r123:=r107.l bW111;have r124:=r108.l bW111;have r125:=r109.l bW111;have b126:=aa b110 bW111;clear q99 q94 q95 q96 r100 r101 r102 r103 r104 r105 r106 r107 r108 r109 b110 bW111;refine wp_region_held_drew (S:=fun wq=>au wq w77.heap.size 68 [.bool m.s,yT mo m.n mc,yi m.e,.bool n.s,yT no n.n nc,yi n.e]∧au wq (w77.heap.size+1) 68 [.bool p.s,yT po p.n pc,yi pe,.bool q.s,yT qo q.n qc,yi qe]∧au wq (w77.heap.size+1+1) 68 [.bool r.s,yT ro r.n rc,yi re,.bool s.s,yT so s.n sc,yi se]) (by kernel_rfl) ⟨q113,q114,q115⟩ (fun hS0=> ?_)
 generalize W93.drew=WD127 at q112 q113 q114 q115 r116 r117 r118 r119 r120 r121 r122 r123 r124 r125 b126 hS0⊢;refine tq 0 (.agg #[.bool m.s,yT mo m.n mc,yi m.e,.bool n.s,yT no n.n nc,yi n.e]) rfl (fun _ hw0=>fy 68 (.tmp 3) rfl w77.heap.size 0 (by kernel_rfl) _ _ hw0.1.range Tryd.underlying68 rfl (by kernel_rfl)) hS0 ?_
 refine tq 1 (.agg #[.bool p.s,yT po p.n pc,yi pe,.bool q.s,yT qo q.n qc,yi qe]) rfl (fun _ hw0=>fy 68 (.tmp 4) rfl (w77.heap.size+1) 0 (by kernel_rfl) _ _ hw0.2.1.range Tryd.underlying68 rfl (by kernel_rfl)) hS0 ?_
 refine tq 3 (.agg #[.bool r.s,yT ro r.n rc,yi re,.bool s.s,yT so s.n sc,yi se]) rfl (fun _ hw0=>fy 68 (.tmp 5) rfl (w77.heap.size+1+1) 0 (by kernel_rfl) _ _ hw0.2.2.range Tryd.underlying68 rfl (by kernel_rfl)) hS0 ?_
 refine wpAnyH_ready (rs:=[2]) (by kernel_rfl) (by simp) ?_;refine AllReadyH.cons rfl (fun K hK=> ?_) AllReadyH.nil
 go_simp
 refine(H8.out _ _ _ _ _ _ _ _ _ b126 r120 r121 r122 r123).mono ?_;rintro zz w128 ⟨v1x130,v2x131,rfl,r1x132,r2x133,bb129⟩;have q134:=q112.l bb129;have q135:=q113.l bb129;have q136:=q114.l bb129;have q137:=q115.l bb129;have r138:=r116.l bb129;have r139:=r117.l bb129;have r140:=r118.l bb129;have r141:=r119.l bb129;have r142:=r120.l bb129;have r143:=r121.l bb129;have r144:=r122.l bb129;have r145:=r123.l bb129;have r146:=r124.l bb129;have r147:=r125.l bb129;have b148:=aa b126 bb129;obtain⟨uo,uc,hv⟩:=r1x132.shape;subst hv;obtain⟨vo,vc,hv⟩:=r2x133.shape;subst hv;clear q112 q113 q114 q115 r116 r117 r118 r119 r120 r121 r122 r123 r124 r125 b126 bb129 H8;refine hK.out _ _ ⟨q135,q136,q137⟩ (fun hS149=> ?_)
 clear hK K;refine wpAnyH_ready (rs:=[4]) (by kernel_rfl) (by simp) ?_;refine AllReadyH.cons rfl (fun K hK=> ?_) AllReadyH.nil
 go_simp
 refine(H9.out _ _ _ _ _ _ _ _ _ b148 r1x132 r2x133 r146 r147).mono ?_;rintro zz w150 ⟨v1x152,v2x153,rfl,r1x154,r2x155,bb151⟩;have q156:=q134.l bb151;have q157:=q135.l bb151;have q158:=q136.l bb151;have q159:=q137.l bb151;have r160:=r138.l bb151;have r161:=r139.l bb151;have r162:=r140.l bb151;have r163:=r141.l bb151;have r164:=r142.l bb151;have r165:=r143.l bb151;have r166:=r144.l bb151;have r167:=r145.l bb151;have r168:=r146.l bb151;have r169:=r147.l bb151;have r170:=r1x132.l bb151;have r171:=r2x133.l bb151;have b172:=aa b148 bb151;obtain⟨xo,xc,hv⟩:=r1x154.shape;subst hv;obtain⟨yo,yc,hv⟩:=r2x155.shape;subst hv;clear q134 q135 q136 q137 r138 r139 r140 r141 r142 r143 r144 r145 r146 r147 r1x132 r2x133 b148 bb151 H9;refine hK.out _ _ ⟨q157,q158,q159⟩ (fun hS173=> ?_)
 clear hK K;refine wpAnyH_ready (rs:=[5]) (by kernel_rfl) (by simp) ?_;refine AllReadyH.cons rfl (fun K hK=> ?_) AllReadyH.nil
 have bu:But w.heap.size w150 (w150.setCells w.heap.size 0 [.bool x.s,yT xo x.n xc,yi x.e,.bool y.s,yT yo y.n yc,yi y.e]):=de _ _ _ _;have hth:w150.there w.heap.size 0 6:=dD q156;have q174:au (w150.setCells w.heap.size 0 [.bool x.s,yT xo x.n xc,yi x.e,.bool y.s,yT yo y.n yc,yi y.e]) w.heap.size 68 [.bool x.s,yT xo x.n xc,yi x.e,.bool y.s,yT yo y.n yc,yi y.e]:=q156.sets _ rfl;have r175:=bu.rd r160 (aX r160 q156 (by simp));have r176:=bu.rd r161 (aX r161 q156 (by simp));have r177:=bu.rd r162 (aX r162 q156 (by simp));have r178:=bu.rd r163 (aX r163 q156 (by simp));have r179:=bu.rd r164 (aX r164 q156 (by simp));have r180:=bu.rd r165 (aX r165 q156 (by simp));have r181:=bu.rd r166 (aX r166 q156 (by simp));have r182:=bu.rd r167 (aX r167 q156 (by simp));have r183:=bu.rd r168 (aX r168 q156 (by simp));have r184:=bu.rd r169 (aX r169 q156 (by simp));have r185:=bu.rd r170 (aX r170 q156 (by simp));have r186:=bu.rd r171 (aX r171 q156 (by simp));have r187:=bu.rd r1x154 (aX r1x154 q156 (by simp));have r188:=bu.rd r2x155 (aX r2x155 q156 (by simp));have q189:=bu.loc q157 (by omega);have q190:=bu.loc q158 (by omega);have q191:=bu.loc q159 (by omega);have b192:=bu.below b172 (by omega);rw[if_pos (by kernel_rfl)];refine wp_store_mid 68 (.tmp 2) (.tmp 20) rfl w.heap.size 0 #[.bool x.s,yT xo x.n xc,yi x.e,.bool y.s,yT yo y.n yc,yi y.e] (by kernel_rfl) (by kernel_rfl) hth (by kernel_rfl) (by simp[Value.oneCell']) ?_;refine hK.out _ _ ⟨q189,q190,q191⟩ (fun hS193=> ?_)
 clear hK K;clear q156 r160 r161 r162 r163 r164 r165 r166 r167 r168 r169 r170 r171 r1x154 r2x155 q157 q158 q159 b172 bu hth;refine wpAnyH_done (by kernel_rfl) ?_ _;clear hS0 hS149 hS173 hS193;change Exit.then _ _ _ _ (World.setCells w150 w.heap.size 0 [.bool x.s,yT xo x.n xc,yi x.e,.bool y.s,yT yo y.n yc,yi y.e]);generalize World.setCells w150 w.heap.size 0 [.bool x.s,yT xo x.n xc,yi x.e,.bool y.s,yT yo y.n yc,yi y.e]=W194 at q174 q189 q190 q191 r175 r176 r177 r178 r179 r180 r181 r182 r183 r184 r185 r186 r187 r188 b192⊢;simp only[Act.put,List.getElem_toArray,List.getElem_cons_succ,List.getElem_cons_zero];have hl:=run_loadVar_mid (P:=Tryd.prog) _ (w.heap.size) 0 68 [.bool x.s,yT xo x.n xc,yi x.e,.bool y.s,yT yo y.n yc,yi y.e] _ q174.range Tryd.underlying68 rfl (by kernel_rfl)
 go_wp2
 exact bodyPost_ret (br Tryd.results35 rfl hl) rfl ⟨_,_,rfl,r187,r188,b192⟩
def lp (nn tn:Nat):Nat→Nat→Nat→Nat→Nat→Nat×Nat×Nat
 |0,i,_,s,r=>(i,s,r)
 |f+1,i,t,s,r=>if t=0 then(i,s,r) else if tn*(i % 2)=0 then lp nn tn f (i+1) (t/nn) (s+t/(2*i+1)) r else lp nn tn f (i+1) (t/nn) s (r+t/(2*i+1))
theorem lp_zero (nn tn f i s r:Nat):lp nn tn f i 0 s r=(i,s,r):=by
 cases f<;>simp[lp]
theorem lp_up (nn tn f i t s r:Nat)(ht:t≠0)(h:tn*(i % 2)=0):lp nn tn (f+1) i t s r=lp nn tn f (i+1) (t/nn) (s+t/(2*i+1)) r:=by
 rw[lp,if_neg ht,if_pos h]
theorem lp_down (nn tn f i t s r:Nat)(ht:t≠0)(h: ¬tn*(i % 2)=0):lp nn tn (f+1) i t s r=lp nn tn f (i+1) (t/nn) s (r+t/(2*i+1)):=by
 rw[lp,if_neg ht,if_neg h]
theorem div_step {nn t f:Nat}(hn:4≤nn)(h:t<4^ (f+1)):t/nn<4^f:=by
 rw[Nat.pow_succ,Nat.mul_comm] at h;have:t/nn≤t/4:=Nat.div_le_div_left hn (by omega);have:t/4<4^f:=Nat.div_lt_of_lt_mul h;omega
theorem two_div {nn t:Nat}(hn:4≤nn):2*(t/nn)≤t:=by
 have h1:t/nn≤t/4:=Nat.div_le_div_left hn (by omega);omega
theorem lp_tail (nn tn:Nat)(hn:4≤nn): ∀f i t s r,i≤(lp nn tn f i t s r).1∧s≤(lp nn tn f i t s r).2.1∧r≤(lp nn tn f i t s r).2.2∧(lp nn tn f i t s r).2.1+(lp nn tn f i t s r).2.2≤s+r+2*t:=by
 intro f
 induction f with
 |zero=>intro i t s r;simp[lp]
 |succ f ih=>
  intro i t s r;have h1:=Nat.div_le_self t (2*i+1);have h2:=two_div (t:=t) hn
  by_cases h0:t=0
  ·subst h0;rw[lp_zero];simp
  ·by_cases h:tn*(i % 2)=0
   ·rw[lp_up _ _ _ _ _ _ _ h0 h]
    obtain⟨a,b,c,d⟩:=ih (i+1) (t/nn) (s+t/(2*i+1)) r;generalize lp nn tn f (i+1) (t/nn) (s+t/(2*i+1)) r=x at*;generalize t/(2*i+1)=q at*;omega
   ·rw[lp_down _ _ _ _ _ _ _ h0 h]
    obtain⟨a,b,c,d⟩:=ih (i+1) (t/nn) s (r+t/(2*i+1));generalize lp nn tn f (i+1) (t/nn) s (r+t/(2*i+1))=x at*;generalize t/(2*i+1)=q at*;omega
theorem div_pair {t T D k:Nat}(hk:0<k)(h1:t*D≤T)(h2:T< (t+1)*D):t/k*D≤T/k∧T/k< (t/k+1)*D:=by
 have hD:0<D:=by
  rcases Nat.eq_zero_or_pos D with c|c
  ·subst c;simp at h2
  ·exact c
 constructor
 ·rw[Nat.le_div_iff_mul_le hk,Nat.mul_right_comm]
  exact Nat.le_trans (Nat.mul_le_mul_right _ (Nat.div_mul_le_self t k)) h1
 ·rw[Nat.div_lt_iff_lt_mul hk,Nat.mul_right_comm]
  refine Nat.lt_of_lt_of_le h2 (Nat.mul_le_mul_right _ ?_);have:=Nat.div_add_mod t k;have:=Nat.mod_lt t hk;rw[Nat.add_mul,Nat.mul_comm (t/k)];omega
theorem lp_pair (nn tn D:Nat)(hn:4≤nn): ∀f F i t T s r S R,t<4^f→T<4^F→t*D≤T→T< (t+1)*D→
  i≤(lp nn tn f i t s r).1∧
  (S+(lp nn tn f i t s r).2.1*D≤(lp nn tn F i T S R).2.1+s*D∧(lp nn tn F i T S R).2.1+s*D≤S+(lp nn tn f i t s r).2.1*D+((lp nn tn f i t s r).1-i+2)*D)∧
  (R+(lp nn tn f i t s r).2.2*D≤(lp nn tn F i T S R).2.2+r*D∧(lp nn tn F i T S R).2.2+r*D≤R+(lp nn tn f i t s r).2.2*D+((lp nn tn f i t s r).1-i+2)*D):=by
 intro f
 induction f with
 |zero=>
  intro F i t T s r S R h1 h2 h3 h4;obtain rfl:t=0:=by simpa using h1
  rw[lp_zero];obtain⟨a,b,c,d⟩:=lp_tail nn tn hn F i T S R;simp only[Nat.zero_add,Nat.one_mul,Nat.sub_self] at h4⊢;omega
 |succ f ih=>
  intro F i t T s r S R h1 h2 h3 h4
  by_cases h0:t=0
  ·subst h0
   rw[lp_zero];obtain⟨a,b,c,d⟩:=lp_tail nn tn hn F i T S R;simp only[Nat.zero_add,Nat.one_mul,Nat.sub_self] at h4⊢;omega
  ·have hD:0<D:=by
    rcases Nat.eq_zero_or_pos D with c|c
    ·subst c;simp at h4
    ·exact c
   have hT:T≠0:=by
    have:1*D≤t*D:=Nat.mul_le_mul_right _ (by omega);omega
   cases F with
   |zero=>exact absurd (show T=0 by simpa using h2) hT
   |succ F=>
    obtain⟨p1,p2⟩:=div_pair (k:=nn) (by omega) h3 h4;obtain⟨q1,q2⟩:=div_pair (k:=2*i+1) (by omega) h3 h4;rw[Nat.add_mul,Nat.one_mul] at q2
    by_cases h:tn*(i % 2)=0
    ·rw[lp_up _ _ _ _ _ _ _ h0 h,lp_up _ _ _ _ _ _ _ hT h]
     obtain⟨a,⟨b1,b2⟩,c1,c2⟩:=ih F (i+1) (t/nn) (T/nn) (s+t/(2*i+1)) r (S+T/(2*i+1)) R (div_step hn h1) (div_step hn h2) p1 p2;generalize lp nn tn f (i+1) (t/nn) (s+t/(2*i+1)) r=x at*;generalize lp nn tn F (i+1) (T/nn) (S+T/(2*i+1)) R=y at*;obtain⟨e,he⟩: ∃e,x.1=i+1+e:=⟨x.1-(i+1),by omega⟩;have e1:x.1-i=e+1:=by omega
     have e2:x.1-(i+1)=e:=by omega
     rw[e1];rw[e2] at b2 c2;simp only[Nat.add_mul,Nat.one_mul] at b1 b2 c1 c2⊢;omega
    ·rw[lp_down _ _ _ _ _ _ _ h0 h,lp_down _ _ _ _ _ _ _ hT h]
     obtain⟨a,⟨b1,b2⟩,c1,c2⟩:=ih F (i+1) (t/nn) (T/nn) s (r+t/(2*i+1)) S (R+T/(2*i+1)) (div_step hn h1) (div_step hn h2) p1 p2;generalize lp nn tn f (i+1) (t/nn) s (r+t/(2*i+1))=x at*;generalize lp nn tn F (i+1) (T/nn) S (R+T/(2*i+1))=y at*;obtain⟨e,he⟩: ∃e,x.1=i+1+e:=⟨x.1-(i+1),by omega⟩;have e1:x.1-i=e+1:=by omega
     have e2:x.1-(i+1)=e:=by omega
     rw[e1];rw[e2] at b2 c2;simp only[Nat.add_mul,Nat.one_mul] at b1 b2 c1 c2⊢;omega
def NmS (w:World)(n:Nat)(z:Ending)(w':World):Prop:= ∃v,z= .returned v∧Rd w' .u32 v (Dg.dg 4294967296 n)∧yB w w'
def TwS (w:World)(a b:Nat)(z:Ending)(w':World):Prop:= ∃v u,z= .returned (.tuple #[v,u])∧Rd w' .u32 v (Dg.dg 4294967296 a)∧Rd w' .u32 u (Dg.dg 4294967296 b)∧yB w w'
def InvN (n k tn:Nat)(R:Nat×Nat×Nat)(f i t s r:Nat):Prop:=
 lp (n*n) tn f i t s r=R∧t<4^f∧i+f≤k+1∧s≤i*2^k∧t≤2^k∧(i % 2=0→r≤s)∧(i % 2=1→r+tn*(t/(2*i+1))≤s)∧(tn=0→r=0)
def InvR (w:World)(n k tn:Nat)(R:Nat×Nat×Nat)(bb ab:Nat)(pv wv iv:Value)(wr:World):Prop:=
 ∃(f i t s r wg:Nat) (so:Option Addr) (sc:Nat) (ro:Option Addr) (rc:Nat),wv=yi wg∧iv=yi i∧Rd wr .u32 pv (Dg.dg 4294967296 t)∧au wr bb 87 [.int .u32 n]∧
  au wr ab 96 [yT so s sc,yT ro r rc]∧Rd wr .u32 (yT so s sc) (Dg.dg 4294967296 s)∧Rd wr .u32 (yT ro r rc) (Dg.dg 4294967296 r)∧
  au wr w.heap.size 68 [.bool false,yN,yi 0,.bool false,yN,yi 0]∧yB w wr∧w.heap.size<bb∧bb<ab∧Hid (InvN n k tn R f i t s r∧wg=3+3*i)
def invLo (R:Nat×Nat×Nat)(k:Nat):ak:=⟨(aG ⟨false,R.2.1-R.2.2,0⟩ (dV ⟨false,3+3*R.1,0⟩)).s,(aG ⟨false,R.2.1-R.2.2,0⟩ (dV ⟨false,3+3*R.1,0⟩)).n,(aG ⟨false,R.2.1-R.2.2,0⟩ (dV ⟨false,3+3*R.1,0⟩)).e-(k:Int)⟩
def invHi (R:Nat×Nat×Nat)(k:Nat):ak:=⟨(aG ⟨false,R.2.1-R.2.2,0⟩ ⟨false,3+3*R.1,0⟩).s,(aG ⟨false,R.2.1-R.2.2,0⟩ ⟨false,3+3*R.1,0⟩).n,(aG ⟨false,R.2.1-R.2.2,0⟩ ⟨false,3+3*R.1,0⟩).e-(k:Int)⟩
theorem plus_e0 (a b:ak)(ha:a.e=0)(hb:b.e=0):(aG a b).e=0:=by
 unfold aG;simp only[ha,hb]
 split
 ·rfl
 ·split<;>rfl
theorem inv_zero {n k tn:Nat}(_hn:2≤n):InvN n k tn (lp (n*n) tn (k+1) 0 (2^k/n) 0 0) (k+1) 0 (2^k/n) 0 0:=by
 have h:=Nat.div_le_self (2^k) n;refine⟨rfl, ?_,by omega,by omega,h,by omega,by omega,by omega⟩;have h1:(2:Nat)^k≤4^k:=Nat.pow_le_pow_left (by omega) k;have h2:(4:Nat)^ (k+1)=4^k*4:=Nat.pow_succ 4 k;have h3:0< (4:Nat)^k:=Nat.pow_pos (by omega);omega
theorem inv_up {n k tn:Nat}{R:Nat×Nat×Nat}{f i t s r:Nat}(hn:2≤n)(h:InvN n k tn R f i t s r)(ht:t≠0)(h0:tn*(i % 2)=0)(ht1:tn≤1):
  ∃f',f=f'+1∧InvN n k tn R f' (i+1) (t/(n*n)) (s+t/(2*i+1)) r:=by
 obtain⟨h1,h2,h3,h4,h5,h6,h7,hr⟩:=h;have hnn:4≤n*n:=Nat.mul_le_mul hn hn
 cases f with
 |zero=>exact absurd (show t=0 by simpa using h2) ht
 |succ f=>
  refine⟨f,rfl, ?_⟩;rw[lp_up _ _ _ _ _ _ _ ht h0] at h1;have d1:=Nat.div_le_self t (2*i+1);have d2:=Nat.div_le_self t (n*n);have d3:t/(n*n)/(2*(i+1)+1)≤t/(2*i+1):=by
   rw[Nat.div_div_eq_div_mul];refine Nat.div_le_div_left ?_ (by omega);have:1*(2*(i+1)+1)≤n*n*(2*(i+1)+1):=Nat.mul_le_mul_right _ (by omega);omega
  refine⟨h1,div_step hnn h2,by omega, ?_,by omega, ?_, ?_,hr⟩
  all_goals generalize t/(2*i+1)=q at*
  ·rw[Nat.add_mul];omega
  ·intro hp
   have hi:i % 2=1:=by omega
   rw[hi] at h0;have:=h7 hi;have:r=0:=hr (by omega);omega
  ·intro hp
   have:=h6 (by omega);have h9:tn*(t/(n*n)/(2*(i+1)+1))≤1*(t/(n*n)/(2*(i+1)+1)):=Nat.mul_le_mul_right _ ht1;rw[Nat.one_mul] at h9;exact Nat.le_trans (Nat.add_le_add_left (Nat.le_trans h9 d3) r) (by omega)
theorem inv_down {n k tn:Nat}{R:Nat×Nat×Nat}{f i t s r:Nat}(hn:2≤n)(h:InvN n k tn R f i t s r)(ht:t≠0)(h0:tn*(i % 2)=1):
  ∃f',f=f'+1∧InvN n k tn R f' (i+1) (t/(n*n)) s (r+t/(2*i+1)):=by
 obtain⟨h1,h2,h3,h4,h5,h6,h7,hr⟩:=h;have hnn:4≤n*n:=Nat.mul_le_mul hn hn
 cases f with
 |zero=>exact absurd (show t=0 by simpa using h2) ht
 |succ f=>
  refine⟨f,rfl, ?_⟩;rw[lp_down _ _ _ _ _ _ _ ht (by omega)] at h1;have d2:=Nat.div_le_self t (n*n);have hi:i % 2=1:=by
   rcases Nat.mod_two_eq_zero_or_one i with c|c
   ·rw[c] at h0;omega
   ·exact c
  have htn:tn=1:=by rw[hi] at h0;omega
  have h8:=h7 hi;subst htn;rw[Nat.one_mul] at h8;generalize t/(2*i+1)=q at*;exact⟨h1,div_step hnn h2,by omega,by rw[Nat.add_mul];omega,by omega,fun _=>h8,fun c=>by omega,fun c=>by omega⟩
theorem inv_end {n k tn:Nat}{R:Nat×Nat×Nat}{f i s r:Nat}(h:InvN n k tn R f i 0 s r):R=(i,s,r)∧r≤s∧i≤k+1∧s≤(k+2)*2^k:=by
 obtain⟨h1,h2,h3,h4,h5,h6,h7,hr⟩:=h;rw[lp_zero] at h1;refine⟨h1.symm, ?_,by omega,Nat.le_trans h4 (Nat.mul_le_mul_right _ (by omega))⟩
 rcases Nat.mod_two_eq_zero_or_one i with c|c
 ·exact h6 c
 ·have:=h7 c
  rw[Nat.zero_div,Nat.mul_zero] at this;exact this
end Go.Proofs.YtiakgfmlpdfhdaaDoor

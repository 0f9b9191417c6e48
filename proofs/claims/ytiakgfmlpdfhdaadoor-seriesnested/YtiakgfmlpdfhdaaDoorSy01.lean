/-
  Texts laid together: Se2, Sp3.
-/
import Derived.Test.YtiakgfmlpdfhdaaDoorChecked
import Derived.Test.YtiakgfmlpdfhdaaDoorSw11
import Derived.Test.YtiakgfmlpdfhdaaDoorDyCs
set_option maxRecDepth 100000
set_option maxHeartbeats 3200000
namespace Go.Proofs.YtiakgfmlpdfhdaaDoor
open Go.RowKit
theorem refine_inv (pf pn:Nat)(pb:Nat)(x y:ak)(n:Int)(w:World)
  (HK: ∀w1,yB w w1→yC 59 #[yi n,.pointer (some ⟨pf,0,none⟩),.pointer (some ⟨pn,0,none⟩)] w1 (aeT w1 x y))
  (HG: ∀xo xc yo yc w1,yB w w1→Rd w1 .u32 (yT xo x.n xc) (Dg.dg 4294967296 x.n)→Rd w1 .u32 (yT yo y.n yc) (Dg.dg 4294967296 y.n)→yC 42 #[.agg #[.bool x.s,yT xo x.n xc,yi x.e,.bool y.s,yT yo y.n yc,yi y.e],.pointer (some ⟨pb,0,none⟩)] w1 (yR w1 (.bool true))):
  yC 41 #[yi n,.func (.func 59) #[] #[.pointer (some ⟨pf,0,none⟩),.pointer (some ⟨pn,0,none⟩)],.func (.func 42) #[] #[.pointer (some ⟨pb,0,none⟩)]] w (aeT w x y):=by
 replace HK:Hid _:=HK;replace HG:Hid _:=HG;obtain⟨W3,hW4,q1,b2⟩:=cA w [.bool false,yN,yi 0,.bool false,yN,yi 0] 68;replace hW4:Hid _:=hW4
 go_enter Tryd.func41,Tryd.ntmps41
 go_upto_region 1 with fail
 rw[hW4.out];clear hW4
 go_wp2_with fail
 refine(HK.out _ b2).mono ?_;rintro zz w5 ⟨v1x7,v2x8,rfl,r1x9,r2x10,bb6⟩;have q11:=q1.l bb6;have b12:=aa b2 bb6;obtain⟨xo,xc,hv⟩:=r1x9.shape;subst hv;obtain⟨yo,yc,hv⟩:=r2x10.shape;subst hv;clear q1 b2 bb6 HK;obtain⟨W15,hW14,q16,al13⟩:=cA w5 [.bool x.s,yT xo x.n xc,yi x.e,.bool y.s,yT yo y.n yc,yi y.e] 68;replace hW14:Hid _:=hW14;have hl17:w.heap.size≤w5.heap.size:=b12.size;have hl18:=q11.lt;have q19:=q11.l al13;have r20:=r1x9.l al13;have r21:=r2x10.l al13;have b22:=aa b12 al13;clear q11 r1x9 r2x10 b12 al13
 go_wp2_with fail
 rw[hW14.out];clear hW14;have hbb:=b22;have qq0:=q19;have qq1:=q16;have rx:=r20;have ry:=r21;clear q19 q16 r20 r21 b22
 go_wp2
 go_loopw [0] (fun nv wr=>nv=yi n∧wr=W15) (fun _ _=>0)
 case atStart=>exact⟨rfl,rfl⟩
 case round=>
  obtain⟨rfl,hwr⟩:=hrel;subst hwr;obtain⟨c101,c102,c103,c104,c105,c106⟩:=qq1.cs6
  go_wp2_with fail
  refine(HG.out _ _ _ _ _ hbb rx ry).mono ?_;rintro zz w107 ⟨rfl,bb108⟩;have q109:=qq0.l bb108;have q110:=qq1.l bb108;have r111:=rx.l bb108;have r112:=ry.l bb108;have b113:=aa hbb bb108;clear qq0 qq1 rx ry hbb bb108 HG c101 c102 c103 c104 c105 c106;obtain⟨c114,c115,c116,c117,c118,c119⟩:=q110.cs6;have hf:=fin6 (P:=Tryd.prog) q109 b113 (by omega) Tryd.underlying68 rfl (by kernel_rfl) (.bool x.s) (yT xo x.n xc) (yi x.e) (.bool y.s) (yT yo y.n yc) (yi y.e);have HH:Hid (_∧_∧_∧_):=⟨hf.1,hf.2.2.rd r111 (aX r111 q109 (by simp)),hf.2.2.rd r112 (aX r112 q109 (by simp)),hf.2.1⟩;obtain⟨⟨z0,z1,z2,z3,z4,z5⟩,y0,y1,y2,y3,y4,y5⟩:=csf6 q109;clear hf q109 q110 r111 r112 b113
  go_wp2
  obtain⟨hl,rRx,rRy,bR⟩:=HH.out;exact bodyPost_ret (br Tryd.results41 rfl hl) rfl ⟨_,_,rfl,rRx,rRy,bR⟩
theorem told_inv (pf pn:Nat)(x y u v p q:ak)(b n er:Int)(w:World)(h1: ¬b<10)(h2: ¬1000<b)(hn:IntKind.i64.wrap (b+64)=n)
  (HR: ∀pb w1,yB w w1→au w1 pb 3 [yi b]→yC 41 #[yi n,.func (.func 59) #[] #[.pointer (some ⟨pf,0,none⟩),.pointer (some ⟨pn,0,none⟩)],.func (.func 42) #[] #[.pointer (some ⟨pb,0,none⟩)]] w1 (aeT w1 x y))
  (HC: ∀xo xc yo yc w1,yB w w1→Rd w1 .u32 (yT xo x.n xc) (Dg.dg 4294967296 x.n)→Rd w1 .u32 (yT yo y.n yc) (Dg.dg 4294967296 y.n)→yC 44 #[.agg #[.bool x.s,yT xo x.n xc,yi x.e,.bool y.s,yT yo y.n yc,yi y.e],yi b] w1 (aeT w1 u v))
  (HH: ∀uo uc vo vc w1,yB w w1→Rd w1 .u32 (yT uo u.n uc) (Dg.dg 4294967296 u.n)→Rd w1 .u32 (yT vo v.n vc) (Dg.dg 4294967296 v.n)→yC 45 #[.agg #[.bool u.s,yT uo u.n uc,yi u.e,.bool v.s,yT vo v.n vc,yi v.e]] w1 (BRd w1 p q er)):
  yC 19 #[yi b,.func (.func 59) #[] #[.pointer (some ⟨pf,0,none⟩),.pointer (some ⟨pn,0,none⟩)]] w (BRd w p q er):=by
 replace HR:Hid _:=HR;replace HC:Hid _:=HC;replace HH:Hid _:=HH;obtain⟨W4,hW5,q1,q2,b3⟩:=iG w [yi b] 3 [.bool false,yN,yi 0,.bool false,yN,yi 0] 27;replace hW5:Hid _:=hW5
 go_enter Tryd.func19,Tryd.ntmps19
 go_upto_region 1 with fail
 rw[hW5.out];clear hW5;have c6:=q1.c 0 rfl
 go_wp2_with fail
 refine(HR.out _ _ b3 q1).mono ?_;rintro zz w7 ⟨v1x9,v2x10,rfl,r1x11,r2x12,bb8⟩;have q13:=q1.l bb8;have q14:=q2.l bb8;have b15:=aa b3 bb8;obtain⟨xo,xc,hv⟩:=r1x11.shape;subst hv;obtain⟨yo,yc,hv⟩:=r2x12.shape;subst hv;clear q1 q2 b3 bb8 HR c6;obtain⟨W18,hW17,q19,al16⟩:=cA w7 [.bool x.s,yT xo x.n xc,yi x.e,.bool y.s,yT yo y.n yc,yi y.e] 68;replace hW17:Hid _:=hW17;have hl20:w.heap.size≤w7.heap.size:=b15.size;have hl21:=q13.lt;have hl22:=q14.lt;have q23:=q13.l al16;have q24:=q14.l al16;have r25:=r1x11.l al16;have r26:=r2x12.l al16;have b27:=aa b15 al16;clear q13 q14 r1x11 r2x12 b15 al16
 go_upto_region 4 with fail
 rw[hW17.out];clear hW17;have c28:=q23.c 0 rfl;obtain⟨c29,c30,c31,c32,c33,c34⟩:=q19.cs6
 go_wp2_with fail
 refine(HC.out _ _ _ _ _ b27 r25 r26).mono ?_;rintro zz w35 ⟨v1x37,v2x38,rfl,r1x39,r2x40,bb36⟩;have q41:=q24.l bb36;have r42:=r25.l bb36;have r43:=r26.l bb36;have b44:=aa b27 bb36;obtain⟨uo,uc,hv⟩:=r1x39.shape;subst hv;obtain⟨vo,vc,hv⟩:=r2x40.shape;subst hv;clear q23 q24 q19 r25 r26 b27 bb36 HC c28 c29 c30 c31 c32 c33 c34
 go_wp2_with fail
 refine(HH.out _ _ _ _ _ b44 r1x39 r2x40).mono ?_;rintro zz w45 ⟨v1x47,v2x48,rfl,r1x49,r2x50,bb46⟩;have q51:=q41.l bb46;have r52:=r42.l bb46;have r53:=r43.l bb46;have r54:=r1x39.l bb46;have r55:=r2x40.l bb46;have b56:=aa b44 bb46;obtain⟨po,pc,hv⟩:=r1x49.shape;subst hv;obtain⟨qo,qc,hv⟩:=r2x50.shape;subst hv;clear q41 r42 r43 r1x39 r2x40 b44 bb46 HH;have hf:=fin6 (P:=Tryd.prog) q51 b56 (by omega) Tryd.underlying27 rfl (by kernel_rfl) (.bool p.s) (yT po p.n pc) (yi p.e) (.bool q.s) (yT qo q.n qc) (yi q.e);have HH:Hid (_∧_∧_∧_):=⟨hf.1,hf.2.2.rd r1x49 (aX r1x49 q51 (by simp)),hf.2.2.rd r2x50 (aX r2x50 q51 (by simp)),hf.2.1⟩;obtain⟨⟨z0,z1,z2,z3,z4,z5⟩,y0,y1,y2,y3,y4,y5⟩:=csf6 q51;clear hf q51 r52 r53 r54 r55 r1x49 r2x50 b56
 go_wp2
 obtain⟨hl,rRp,rRq,bR⟩:=HH.out;exact bodyPost_ret (aj Tryd.results19 rfl rfl hl) rfl ⟨_,_,rfl,rRp,rRq,bR⟩
theorem invAtan_W (pf pn:Nat)(x y:ak)(n k:Int)(w:World)(lf:w.rangeAt pf 0 [.func (.func 40) #[] #[]])(ln:w.rangeAt pn 0 [yi n])
  (HI: ∀w1,yB w w1→yC 40 #[yi n,yi k] w1 (aeT w1 x y)):
  yC 59 #[yi k,.pointer (some ⟨pf,0,none⟩),.pointer (some ⟨pn,0,none⟩)] w (aeT w x y):=by
 replace HI:Hid _:=HI;obtain⟨W3,hW4,q1,b2⟩:=cA w [.bool false,yN,yi 0,.bool false,yN,yi 0] 68;replace hW4:Hid _:=hW4;have q5:=aC lf b2;have q6:=aC ln b2;clear lf ln
 go_enter Tryd.func59,Tryd.ntmps59
 go_upto_region 1 with fail
 rw[hW4.out];clear hW4;have c7:=q5 0 _ rfl;have c8:=q6 0 _ rfl
 go_wp2_with fail
 refine(HI.out _ b2).mono ?_;rintro zz w9 ⟨v1x11,v2x12,rfl,r1x13,r2x14,bb10⟩;have q15:=q1.l bb10;have b16:=aa b2 bb10;obtain⟨xo,xc,hv⟩:=r1x13.shape;subst hv;obtain⟨yo,yc,hv⟩:=r2x14.shape;subst hv;clear q5 q6 q1 b2 bb10 HI c7 c8;have hf:=fin6 (P:=Tryd.prog) q15 b16 (by omega) Tryd.underlying68 rfl (by kernel_rfl) (.bool x.s) (yT xo x.n xc) (yi x.e) (.bool y.s) (yT yo y.n yc) (yi y.e);have HH:Hid (_∧_∧_∧_):=⟨hf.1,hf.2.2.rd r1x13 (aX r1x13 q15 (by simp)),hf.2.2.rd r2x14 (aX r2x14 q15 (by simp)),hf.2.1⟩;obtain⟨⟨z0,z1,z2,z3,z4,z5⟩,y0,y1,y2,y3,y4,y5⟩:=csf6 q15;clear hf q15 r1x13 r2x14 b16
 go_wp2
 obtain⟨hl,rRx,rRy,bR⟩:=HH.out;exact bodyPost_ret (br Tryd.results59 rfl hl) rfl ⟨_,_,rfl,rRx,rRy,bR⟩
theorem ofinvAtan_e1 (n b:Int)(w:World)(h:n<2):
  yC 38 #[yi n,yi b,.func (.func 40) #[] #[]] w (yR w (.tuple #[.agg #[.bool false,yN,yi 0,.bool false,yN,yi 0],yi 3])):=by
 obtain⟨W5,hW6,q1,q2,q3,b4⟩:=lG w [yi n] 3 [.func (.func 40) #[] #[]] 64 [.bool false,yN,yi 0,.bool false,yN,yi 0] 27;replace hW6:Hid _:=hW6;clear q2
 go_enter Tryd.func38,Tryd.ntmps38
 go_upto_region 1 with fail
 rw[hW6.out];clear hW6;have c7:=q1.c 0 rfl;have hf:=fin6 (P:=Tryd.prog) q3 b4 (by omega) Tryd.underlying27 rfl (by kernel_rfl) (.bool false) yN (yi 0) (.bool false) yN (yi 0);have HH:Hid (_∧_):=⟨hf.1,hf.2.1⟩;obtain⟨⟨z0,z1,z2,z3,z4,z5⟩,y0,y1,y2,y3,y4,y5⟩:=csf6 q3;clear hf q1 q3 b4
 go_wp2
 obtain⟨hl,bR⟩:=HH.out;exact bodyPost_ret (aj Tryd.results38 rfl rfl hl) rfl ⟨rfl,bR⟩
theorem ofinvAtan_e2 (n b:Int)(w:World)(h0: ¬n<2)(h:1000<n):
  yC 38 #[yi n,yi b,.func (.func 40) #[] #[]] w (yR w (.tuple #[.agg #[.bool false,yN,yi 0,.bool false,yN,yi 0],yi 3])):=by
 obtain⟨W5,hW6,q1,q2,q3,b4⟩:=lG w [yi n] 3 [.func (.func 40) #[] #[]] 64 [.bool false,yN,yi 0,.bool false,yN,yi 0] 27;replace hW6:Hid _:=hW6;clear q2
 go_enter Tryd.func38,Tryd.ntmps38
 go_upto_region 1 with fail
 rw[hW6.out];clear hW6;have c7:=q1.c 0 rfl;have hf:=fin6 (P:=Tryd.prog) q3 b4 (by omega) Tryd.underlying27 rfl (by kernel_rfl) (.bool false) yN (yi 0) (.bool false) yN (yi 0);have HH:Hid (_∧_):=⟨hf.1,hf.2.1⟩;obtain⟨⟨z0,z1,z2,z3,z4,z5⟩,y0,y1,y2,y3,y4,y5⟩:=csf6 q3;clear hf q1 q3 b4
 go_wp2
 obtain⟨hl,bR⟩:=HH.out;exact bodyPost_ret (aj Tryd.results38 rfl rfl hl) rfl ⟨rfl,bR⟩
theorem ofinvAtan_W (p q:ak)(n b er:Int)(w:World)(h1: ¬n<2)(h2: ¬1000<n)
  (HT: ∀pf pn w1,yB w w1→au w1 pf 64 [.func (.func 40) #[] #[]]→au w1 pn 3 [yi n]→yC 19 #[yi b,.func (.func 59) #[] #[.pointer (some ⟨pf,0,none⟩),.pointer (some ⟨pn,0,none⟩)]] w1 (BRd w1 p q er)):
  yC 38 #[yi n,yi b,.func (.func 40) #[] #[]] w (BRd w p q er):=by
 replace HT:Hid _:=HT;obtain⟨W5,hW6,q1,q2,q3,b4⟩:=lG w [yi n] 3 [.func (.func 40) #[] #[]] 64 [.bool false,yN,yi 0,.bool false,yN,yi 0] 27;replace hW6:Hid _:=hW6
 go_enter Tryd.func38,Tryd.ntmps38
 go_upto_region 1 with fail
 rw[hW6.out];clear hW6;have c7:=q1.c 0 rfl
 go_wp2_with fail
 refine(HT.out _ _ _ b4 q2 q1).mono ?_;rintro zz w8 ⟨v1x10,v2x11,rfl,r1x12,r2x13,bb9⟩;have q14:=q3.l bb9;have b15:=aa b4 bb9;obtain⟨po,pc,hv⟩:=r1x12.shape;subst hv;obtain⟨qo,qc,hv⟩:=r2x13.shape;subst hv;clear q1 q2 q3 b4 bb9 HT c7;have hf:=fin6 (P:=Tryd.prog) q14 b15 (by omega) Tryd.underlying27 rfl (by kernel_rfl) (.bool p.s) (yT po p.n pc) (yi p.e) (.bool q.s) (yT qo q.n qc) (yi q.e);have HH:Hid (_∧_∧_∧_):=⟨hf.1,hf.2.2.rd r1x12 (aX r1x12 q14 (by simp)),hf.2.2.rd r2x13 (aX r2x13 q14 (by simp)),hf.2.1⟩;obtain⟨⟨z0,z1,z2,z3,z4,z5⟩,y0,y1,y2,y3,y4,y5⟩:=csf6 q14;clear hf q14 r1x12 r2x13 b15
 go_wp2
 obtain⟨hl,rRp,rRq,bR⟩:=HH.out;exact bodyPost_ret (aj Tryd.results38 rfl rfl hl) rfl ⟨_,_,rfl,rRp,rRq,bR⟩
theorem serAtan_W (p q:ak)(n b er:Int)(w:World)
  (HT: ∀w1,yB w w1→yC 38 #[yi n,yi b,.func (.func 40) #[] #[]] w1 (BRd w1 p q er)):
  yC 16 #[yi n,yi b] w (BRd w p q er):=by
 replace HT:Hid _:=HT;obtain⟨W3,hW4,q1,b2⟩:=cA w [.bool false,yN,yi 0,.bool false,yN,yi 0] 27;replace hW4:Hid _:=hW4
 go_enter Tryd.func16,Tryd.ntmps16
 go_upto_region 1 with fail
 rw[hW4.out];clear hW4
 go_wp2_with fail
 refine(HT.out _ b2).mono ?_;rintro zz w5 ⟨v1x7,v2x8,rfl,r1x9,r2x10,bb6⟩;have q11:=q1.l bb6;have b12:=aa b2 bb6;obtain⟨po,pc,hv⟩:=r1x9.shape;subst hv;obtain⟨qo,qc,hv⟩:=r2x10.shape;subst hv;clear q1 b2 bb6 HT;have hf:=fin6 (P:=Tryd.prog) q11 b12 (by omega) Tryd.underlying27 rfl (by kernel_rfl) (.bool p.s) (yT po p.n pc) (yi p.e) (.bool q.s) (yT qo q.n qc) (yi q.e);have HH:Hid (_∧_∧_∧_):=⟨hf.1,hf.2.2.rd r1x9 (aX r1x9 q11 (by simp)),hf.2.2.rd r2x10 (aX r2x10 q11 (by simp)),hf.2.1⟩;obtain⟨⟨z0,z1,z2,z3,z4,z5⟩,y0,y1,y2,y3,y4,y5⟩:=csf6 q11;clear hf q11 r1x9 r2x10 b12
 go_wp2
 obtain⟨hl,rRp,rRq,bR⟩:=HH.out;exact bodyPost_ret (aj Tryd.results16 rfl rfl hl) rfl ⟨_,_,rfl,rRp,rRq,bR⟩
theorem invAtanh_W (pf pn:Nat)(x y:ak)(n k:Int)(w:World)(lf:w.rangeAt pf 0 [.func (.func 39) #[] #[]])(ln:w.rangeAt pn 0 [yi n])
  (HI: ∀w1,yB w w1→yC 39 #[yi n,yi k] w1 (aeT w1 x y)):
  yC 59 #[yi k,.pointer (some ⟨pf,0,none⟩),.pointer (some ⟨pn,0,none⟩)] w (aeT w x y):=by
 replace HI:Hid _:=HI;obtain⟨W3,hW4,q1,b2⟩:=cA w [.bool false,yN,yi 0,.bool false,yN,yi 0] 68;replace hW4:Hid _:=hW4;have q5:=aC lf b2;have q6:=aC ln b2;clear lf ln
 go_enter Tryd.func59,Tryd.ntmps59
 go_upto_region 1 with fail
 rw[hW4.out];clear hW4;have c7:=q5 0 _ rfl;have c8:=q6 0 _ rfl
 go_wp2_with fail
 refine(HI.out _ b2).mono ?_;rintro zz w9 ⟨v1x11,v2x12,rfl,r1x13,r2x14,bb10⟩;have q15:=q1.l bb10;have b16:=aa b2 bb10;obtain⟨xo,xc,hv⟩:=r1x13.shape;subst hv;obtain⟨yo,yc,hv⟩:=r2x14.shape;subst hv;clear q5 q6 q1 b2 bb10 HI c7 c8;have hf:=fin6 (P:=Tryd.prog) q15 b16 (by omega) Tryd.underlying68 rfl (by kernel_rfl) (.bool x.s) (yT xo x.n xc) (yi x.e) (.bool y.s) (yT yo y.n yc) (yi y.e);have HH:Hid (_∧_∧_∧_):=⟨hf.1,hf.2.2.rd r1x13 (aX r1x13 q15 (by simp)),hf.2.2.rd r2x14 (aX r2x14 q15 (by simp)),hf.2.1⟩;obtain⟨⟨z0,z1,z2,z3,z4,z5⟩,y0,y1,y2,y3,y4,y5⟩:=csf6 q15;clear hf q15 r1x13 r2x14 b16
 go_wp2
 obtain⟨hl,rRx,rRy,bR⟩:=HH.out;exact bodyPost_ret (br Tryd.results59 rfl hl) rfl ⟨_,_,rfl,rRx,rRy,bR⟩
theorem ofinvAtanh_e1 (n b:Int)(w:World)(h:n<2):
  yC 38 #[yi n,yi b,.func (.func 39) #[] #[]] w (yR w (.tuple #[.agg #[.bool false,yN,yi 0,.bool false,yN,yi 0],yi 3])):=by
 obtain⟨W5,hW6,q1,q2,q3,b4⟩:=lG w [yi n] 3 [.func (.func 39) #[] #[]] 64 [.bool false,yN,yi 0,.bool false,yN,yi 0] 27;replace hW6:Hid _:=hW6;clear q2
 go_enter Tryd.func38,Tryd.ntmps38
 go_upto_region 1 with fail
 rw[hW6.out];clear hW6;have c7:=q1.c 0 rfl;have hf:=fin6 (P:=Tryd.prog) q3 b4 (by omega) Tryd.underlying27 rfl (by kernel_rfl) (.bool false) yN (yi 0) (.bool false) yN (yi 0);have HH:Hid (_∧_):=⟨hf.1,hf.2.1⟩;obtain⟨⟨z0,z1,z2,z3,z4,z5⟩,y0,y1,y2,y3,y4,y5⟩:=csf6 q3;clear hf q1 q3 b4
 go_wp2
 obtain⟨hl,bR⟩:=HH.out;exact bodyPost_ret (aj Tryd.results38 rfl rfl hl) rfl ⟨rfl,bR⟩
theorem ofinvAtanh_e2 (n b:Int)(w:World)(h0: ¬n<2)(h:1000<n):
  yC 38 #[yi n,yi b,.func (.func 39) #[] #[]] w (yR w (.tuple #[.agg #[.bool false,yN,yi 0,.bool false,yN,yi 0],yi 3])):=by
 obtain⟨W5,hW6,q1,q2,q3,b4⟩:=lG w [yi n] 3 [.func (.func 39) #[] #[]] 64 [.bool false,yN,yi 0,.bool false,yN,yi 0] 27;replace hW6:Hid _:=hW6;clear q2
 go_enter Tryd.func38,Tryd.ntmps38
 go_upto_region 1 with fail
 rw[hW6.out];clear hW6;have c7:=q1.c 0 rfl;have hf:=fin6 (P:=Tryd.prog) q3 b4 (by omega) Tryd.underlying27 rfl (by kernel_rfl) (.bool false) yN (yi 0) (.bool false) yN (yi 0);have HH:Hid (_∧_):=⟨hf.1,hf.2.1⟩;obtain⟨⟨z0,z1,z2,z3,z4,z5⟩,y0,y1,y2,y3,y4,y5⟩:=csf6 q3;clear hf q1 q3 b4
 go_wp2
 obtain⟨hl,bR⟩:=HH.out;exact bodyPost_ret (aj Tryd.results38 rfl rfl hl) rfl ⟨rfl,bR⟩
theorem ofinvAtanh_W (p q:ak)(n b er:Int)(w:World)(h1: ¬n<2)(h2: ¬1000<n)
  (HT: ∀pf pn w1,yB w w1→au w1 pf 64 [.func (.func 39) #[] #[]]→au w1 pn 3 [yi n]→yC 19 #[yi b,.func (.func 59) #[] #[.pointer (some ⟨pf,0,none⟩),.pointer (some ⟨pn,0,none⟩)]] w1 (BRd w1 p q er)):
  yC 38 #[yi n,yi b,.func (.func 39) #[] #[]] w (BRd w p q er):=by
 replace HT:Hid _:=HT;obtain⟨W5,hW6,q1,q2,q3,b4⟩:=lG w [yi n] 3 [.func (.func 39) #[] #[]] 64 [.bool false,yN,yi 0,.bool false,yN,yi 0] 27;replace hW6:Hid _:=hW6
 go_enter Tryd.func38,Tryd.ntmps38
 go_upto_region 1 with fail
 rw[hW6.out];clear hW6;have c7:=q1.c 0 rfl
 go_wp2_with fail
 refine(HT.out _ _ _ b4 q2 q1).mono ?_;rintro zz w8 ⟨v1x10,v2x11,rfl,r1x12,r2x13,bb9⟩;have q14:=q3.l bb9;have b15:=aa b4 bb9;obtain⟨po,pc,hv⟩:=r1x12.shape;subst hv;obtain⟨qo,qc,hv⟩:=r2x13.shape;subst hv;clear q1 q2 q3 b4 bb9 HT c7;have hf:=fin6 (P:=Tryd.prog) q14 b15 (by omega) Tryd.underlying27 rfl (by kernel_rfl) (.bool p.s) (yT po p.n pc) (yi p.e) (.bool q.s) (yT qo q.n qc) (yi q.e);have HH:Hid (_∧_∧_∧_):=⟨hf.1,hf.2.2.rd r1x12 (aX r1x12 q14 (by simp)),hf.2.2.rd r2x13 (aX r2x13 q14 (by simp)),hf.2.1⟩;obtain⟨⟨z0,z1,z2,z3,z4,z5⟩,y0,y1,y2,y3,y4,y5⟩:=csf6 q14;clear hf q14 r1x12 r2x13 b15
 go_wp2
 obtain⟨hl,rRp,rRq,bR⟩:=HH.out;exact bodyPost_ret (aj Tryd.results38 rfl rfl hl) rfl ⟨_,_,rfl,rRp,rRq,bR⟩
theorem serAtanh_W (p q:ak)(n b er:Int)(w:World)
  (HT: ∀w1,yB w w1→yC 38 #[yi n,yi b,.func (.func 39) #[] #[]] w1 (BRd w1 p q er)):
  yC 15 #[yi n,yi b] w (BRd w p q er):=by
 replace HT:Hid _:=HT;obtain⟨W3,hW4,q1,b2⟩:=cA w [.bool false,yN,yi 0,.bool false,yN,yi 0] 27;replace hW4:Hid _:=hW4
 go_enter Tryd.func15,Tryd.ntmps15
 go_upto_region 1 with fail
 rw[hW4.out];clear hW4
 go_wp2_with fail
 refine(HT.out _ b2).mono ?_;rintro zz w5 ⟨v1x7,v2x8,rfl,r1x9,r2x10,bb6⟩;have q11:=q1.l bb6;have b12:=aa b2 bb6;obtain⟨po,pc,hv⟩:=r1x9.shape;subst hv;obtain⟨qo,qc,hv⟩:=r2x10.shape;subst hv;clear q1 b2 bb6 HT;have hf:=fin6 (P:=Tryd.prog) q11 b12 (by omega) Tryd.underlying27 rfl (by kernel_rfl) (.bool p.s) (yT po p.n pc) (yi p.e) (.bool q.s) (yT qo q.n qc) (yi q.e);have HH:Hid (_∧_∧_∧_):=⟨hf.1,hf.2.2.rd r1x9 (aX r1x9 q11 (by simp)),hf.2.2.rd r2x10 (aX r2x10 q11 (by simp)),hf.2.1⟩;obtain⟨⟨z0,z1,z2,z3,z4,z5⟩,y0,y1,y2,y3,y4,y5⟩:=csf6 q11;clear hf q11 r1x9 r2x10 b12
 go_wp2
 obtain⟨hl,rRp,rRq,bR⟩:=HH.out;exact bodyPost_ret (aj Tryd.results15 rfl rfl hl) rfl ⟨_,_,rfl,rRp,rRq,bR⟩
theorem told_inv_any (pf pn:Nat)(x y:ak)(b c q B:Nat)(w:World)(hb:10≤b∧b≤1000)(hT:Tab w)(fx:FitsT x)(fy:FitsT y)(ex: -((b+64:Nat):Int)≤x.e)(ey: -((b+64:Nat):Int)≤y.e)
  (c1:2^b≤2*c) (c2:c<2^b) (h1:((c*2^q:Nat):Int)≤V (b+64) x) (h2:V (b+64) x≤V (b+64) y) (h3:V (b+64) y< (((c+1)*2^q:Nat):Int)) (hB:(c+1)*2^q≤2^B) (hB2:B≤9000)
  (HK: ∀w1,yB w w1→yC 59 #[yi ((b+64:Nat):Int),.pointer (some ⟨pf,0,none⟩),.pointer (some ⟨pn,0,none⟩)] w1 (aeT w1 x y)):
  yC 19 #[yi b,.func (.func 59) #[] #[.pointer (some ⟨pf,0,none⟩),.pointer (some ⟨pn,0,none⟩)]] w (BRd w (bare (aY x b false)) (bare (aY y b true)) 0):=by
 have hb1:1≤b:=by omega
 have hbI:(1:Int)≤(b:Int):=by omega
 have hw:IntKind.i64.wrap ((b:Int)+64)=((b+64:Nat):Int):=by
  rw[show b+64=((b+64:Nat):Int) by omega]
  exact IntWalk.i64_in _ ⟨by omega,by omega⟩
 obtain⟨sx,sy,gx,gy,hc0⟩:=tell hb1 ex ey c1 c2 h1 h2 h3;obtain⟨u1,u2⟩:=cut_is_c hb1 ex c1 c2 h1 (by omega);obtain⟨v0,v1,v2⟩:=cut_up_c hb1 ey c2 h3;have hpb0:0<2^b:=Nat.pow_pos (by omega);have hcq:0<c*2^q:=Nat.mul_pos (by omega) (Nat.pow_pos (by omega));have hcc:c*2^q≤(c+1)*2^q:=Nat.mul_le_mul_right _ (by omega);have lx:=fx.len;have ly:=fy.len;obtain⟨-,x1,x2⟩:=fx;obtain⟨-,y1,y2⟩:=fy;have nu:=mi x b false hbI;have nv:=mi y b true hbI;rw[Int.toNat_natCast] at nu nv;obtain⟨-,su1,su2,-,su3⟩:=bare_smallS (B:=B) u2 (by omega) (by omega);obtain⟨-,sv1,sv2,-,-⟩:=bare_smallS (B:=B) v2 (by omega) (by omega);have ku:=short_is hb.2 nu (by omega) (by omega);have kv:=short_is hb.2 nv (by omega) (by omega);have lu:=tK (b:=(b:Int)) (up:=false) lx (by omega);have lv:=tK (b:=(b:Int)) (up:=true) ly (by omega);have eu:=WQ (up:=false) lx hbI;have ev:=WQ (up:=true) ly hbI;have zu:=gZ _ _ lu;have zv:=gZ _ _ lv;refine told_inv pf pn x y (aY x b false) (aY y b true) _ _ b ((b+64:Nat):Int) 0 w (by omega) (by omega) hw ?_ ?_ ?_
 ·intro pb w1 q1 hl
  refine refine_inv pf pn pb x y _ w1 (fun w2 q2=>HK w2 (aa q1 q2)) ?_
  intro xo xc yo yc w2 q2 rx ry;refine toldOk_W pb x y _ _ _ _ b w2 (hl.l q2).range ?_;intro w3 q3;have hT3:=hT.l (aa q1 (aa q2 q3));have rx3:=rx.l q3;have ry3:=ry.l q3;refine spanSame_W x y _ _ _ _ (aY x b false) (aY y b false) b w3 ?_ ?_ ?_ ?_
  ·intro w4 q4
   refine signs_pos x y _ _ _ _ w4 (fun w5 q5=> ?_) (fun w5 q5=> ?_)
   ·have:=qB _ x w5 ⟨_,rfl,(rx3.l q4).l q5⟩
    rwa [gx] at this
   ·have:=qB _ y w5 ⟨_,rfl,(ry3.l q4).l q5⟩
    rwa [gy] at this
  ·intro w4 q4
   have:=Ij _ x b x.s w4 ⟨_,rfl,rx3.l q4⟩ (by omega) (by omega) (by omega) hbI (by omega) (hT3.l q4);rw[show aY x b x.s=aY x b false by rw[sx]] at this
   exact this
  ·intro w4 q4
   have:=Ij _ y b y.s w4 ⟨_,rfl,ry3.l q4⟩ (by omega) (by omega) (by omega) hbI (by omega) (hT3.l q4);rw[show aY y b y.s=aY y b false by rw[sy]] at this
   exact this
  ·intro po pc qo qc w4 q4 rp rq
   have l2:=tK (b:=(b:Int)) (up:=false) ly (by omega);have e2:=WQ (up:=false) ly hbI;obtain⟨-,p2⟩:=cut_is_c hb1 ey c1 c2 (by omega) h3;obtain⟨-,t1,t2,-,t3⟩:=bare_smallS (B:=B) p2 (by have:=(cut_is_c hb1 ey c1 c2 (by omega) h3).1;omega) (by have:=(cut_is_c hb1 ey c1 c2 (by omega) h3).1;omega);have:=iE _ _ (aY x b false) (aY y b false) w4 ⟨_,rfl,rp⟩ ⟨_,rfl,rq⟩ (by omega) (by omega) (by omega) (cut_e_le su2 (by omega) su3) (by omega) (cut_e_le t2 (by omega) t3)
   rwa [hc0] at this
 ·intro xo xc yo yc w1 q1 rx ry
  exact Nt x.s xo xc _ x.e y.s yo yc _ y.e b _ _ w1
   (fun w2 q2=>Ij _ x b false w2 ⟨_,rfl,rx.l q2⟩ (by omega) (by omega) (by omega) hbI (by omega) (hT.l (aa q1 q2)))
   (fun w2 q2=>Ij _ y b true w2 ⟨_,rfl,ry.l q2⟩ (by omega) (by omega) (by omega) hbI (by omega) (hT.l (aa q1 q2)))
 ·intro uo uc vo vc w1 q1 ru rv
  have h:=Hu _ uo uc _ _ _ vo vc _ _ _ _ w1
   (fun w2 q2=>kL _ (aY x b false) w2 ⟨_,rfl,ru.l q2⟩ (by omega) ⟨by omega,by omega⟩ (hT.l (aa q1 q2)) (by omega))
   (fun w2 q2=>kL _ (aY y b true) w2 ⟨_,rfl,rv.l q2⟩ (by omega) ⟨by omega,by omega⟩ (hT.l (aa q1 q2)) (by omega))
  rw[ku,kv] at h;refine h.mono ?_;rintro z w2 ⟨p,q,k1,k2,k3,k4⟩;exact⟨p,q,k1,k2.rd,k3.rd,k4⟩
end Go.Proofs.YtiakgfmlpdfhdaaDoor

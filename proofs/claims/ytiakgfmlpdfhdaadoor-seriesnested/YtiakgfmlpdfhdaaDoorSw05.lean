/-
  Texts laid together: Se4.
-/
import Derived.Test.YtiakgfmlpdfhdaaDoorSw01
set_option maxRecDepth 100000
set_option maxHeartbeats 3200000
namespace Go.Proofs.YtiakgfmlpdfhdaaDoor
open Go.RowKit
def RZs (w:World)(g:Bool)(n:Nat)(z:Ending)(w':World):Prop:=
 ∃v,z= .returned (.agg #[.bool g,v])∧Rd w' .i64 v (Dg.dg 65536 n)∧yB w w'
theorem field_z (x y:Value)(w:World):Sem.run Tryd.prog (Instr.field 41 (.agg #[x,y]) 1) w= .ok y w:=by kernel_rfl
theorem zplus_W (ga gb:Bool)(a b N:Nat)(ao bo:Option Addr)(ac bc:Nat)(x:ak)(w:World)
  (HD: ∀w1,yB w w1→yC 27 #[ydV ga (yS ao a ac) 0,ydV gb (yS bo b bc) 0] w1 (dr w1 x))
  (HU: ∀xo xc w1,yB w w1→Rd w1 .i64 (yS xo x.n xc) (Dg.dg 65536 x.n)→yC 51 #[yS xo x.n xc,yi x.e] w1 (cG w1 N)):
  yC 55 #[.agg #[.bool ga,yS ao a ac],.agg #[.bool gb,yS bo b bc]] w (RZs w x.s N):=by
 replace HD:Hid _:=HD;replace HU:Hid _:=HU;obtain⟨W5,hW6,q1,q2,q3,b4⟩:=lG w [.bool ga,yS ao a ac] 41 [.bool gb,yS bo b bc] 41 [.bool false,yN] 41;replace hW6:Hid _:=hW6
 go_enter Tryd.func55,Tryd.ntmps55
 go_upto_region 1 with fail
 rw[hW6.out];clear hW6;obtain⟨c7,c8⟩:=q1.cs2;obtain⟨c9,c10⟩:=q2.cs2
 go_wp2_with fail
 refine(HD.out _ b4).mono ?_;rintro zz w11 ⟨v1x13,rfl,r1x14,bb12⟩;have q15:=q3.l bb12;have b16:=aa b4 bb12;obtain⟨xo,xc,hv⟩:=r1x14.shape;subst hv;clear q1 q2 q3 b4 bb12 HD c7 c8 c9 c10;obtain⟨W19,hW18,q20,al17⟩:=cA w11 (yML x xo xc) 36;replace hW18:Hid _:=hW18;have hl21:w.heap.size≤w11.heap.size:=b16.size;have hl22:=q15.lt;have q23:=q15.l al17;have r24:=r1x14.l al17;have b25:=aa b16 al17;clear q15 r1x14 b16 al17
 go_upto_region 2 with fail
 rw[hW18.out];clear hW18
 go_upto_region 2 with fail
 have bW26:yB W19 W19.drew:=(Below.refl _ _).drew;have q27:=q23.l bW26;have q28:=q20.l bW26;have r29:=r24.l bW26;have b30:=aa b25 bW26;clear q23 q20 r24 b25 bW26;refine wp_region_held_drew (S:=fun wq=>au wq w11.heap.size 36 (yML x xo xc)) (by kernel_rfl) q28 (fun hS0=> ?_)
 generalize W19.drew=WD31 at q27 q28 r29 b30 hS0⊢;refine tq 0 (.pointer (some ⟨w11.heap.size,0,none⟩)) rfl (fun _ _=>by kernel_rfl) hS0 ?_
 refine tq 1 (.bool x.s) rfl (fun _ hw0=>gU 4 (.tmp 17) rfl w11.heap.size 0 (by kernel_rfl) _ _ Tryd.underlying4 rfl (hw0.c 0 rfl)) hS0 ?_
 refine tq 2 (.pointer (some ⟨w11.heap.size,1,none⟩)) rfl (fun _ _=>by kernel_rfl) hS0 ?_
 refine tq 3 (yS xo x.n xc) rfl (fun _ hw0=>gU 34 (.tmp 19) rfl w11.heap.size 1 (by kernel_rfl) _ _ Tryd.underlying34 rfl (hw0.c 1 rfl)) hS0 ?_
 refine tq 4 (.pointer (some ⟨w11.heap.size,2,none⟩)) rfl (fun _ _=>by kernel_rfl) hS0 ?_
 refine tq 5 (yi x.e) rfl (fun _ hw0=>gU 3 (.tmp 21) rfl w11.heap.size 2 (by kernel_rfl) _ _ Tryd.underlying3 rfl (hw0.c 2 rfl)) hS0 ?_
 refine wpAnyH_ready (rs:=[6]) (by kernel_rfl) (by simp) ?_;refine AllReadyH.cons rfl (fun K hK=> ?_) AllReadyH.nil
 go_simp
 refine(HU.out _ _ _ b30 r29).mono ?_;rintro zz w32 ⟨v1x34,rfl,r1x35,bb33⟩;have q36:=q27.l bb33;have q37:=q28.l bb33;have r38:=r29.l bb33;have b39:=aa b30 bb33;obtain⟨yo,yc,hv⟩:=r1x35.shape;subst hv;clear q27 q28 r29 b30 bb33 HU;refine hK.out _ _ q37 (fun hS40=> ?_)
 clear hK K;refine tq 7 (.agg #[.bool x.s,yS yo N yc]) rfl (fun _ _=>by kernel_rfl) hS40 ?_
 refine wpAnyH_ready (rs:=[8]) (by kernel_rfl) (by simp) ?_;refine AllReadyH.cons rfl (fun K hK=> ?_) AllReadyH.nil
 have bu:But (w.heap.size+1+1) w32 (w32.setCells (w.heap.size+1+1) 0 [.bool x.s,yS yo N yc]):=de _ _ _ _;have hth:w32.there (w.heap.size+1+1) 0 2:=dD q36;have q41:au (w32.setCells (w.heap.size+1+1) 0 [.bool x.s,yS yo N yc]) (w.heap.size+1+1) 41 [.bool x.s,yS yo N yc]:=q36.sets _ rfl;have r42:=bu.rd r38 (cq r38 (Dg.norm_dg _ _ (by omega)) q36 (fun x hx n hn=>by simp at hx;rcases hx with rfl|rfl<;>simp;all_goals omega))
 have r43:=bu.rd r1x35 (cq r1x35 (Dg.norm_dg _ _ (by omega)) q36 (fun x hx n hn=>by simp at hx;rcases hx with rfl|rfl<;>simp;all_goals omega))
 have q44:=bu.loc q37 (by omega);have b45:=bu.below b39 (by omega);rw[if_pos (by kernel_rfl)];refine wp_store_mid 41 (.tmp 4) (.tmp 24) rfl (w.heap.size+1+1) 0 #[.bool x.s,yS yo N yc] (by kernel_rfl) (by kernel_rfl) hth (by kernel_rfl) (by simp[Value.oneCell']) ?_;refine hK.out _ _ q44 (fun hS46=> ?_)
 clear hK K;clear q36 r38 r1x35 q37 b39 bu hth;refine wpAnyH_done (by kernel_rfl) ?_ _;clear hS0 hS40 hS46;change Exit.then _ _ _ _ (World.setCells w32 (w.heap.size+1+1) 0 [.bool x.s,yS yo N yc]);generalize World.setCells w32 (w.heap.size+1+1) 0 [.bool x.s,yS yo N yc]=W47 at q41 q44 r42 r43 b45⊢;simp only[Act.put,List.getElem_toArray,List.getElem_cons_succ,List.getElem_cons_zero];have hl:=run_loadVar_mid (P:=Tryd.prog) _ (w.heap.size+1+1) 0 41 [.bool x.s,yS yo N yc] _ q41.range Tryd.underlying41 rfl (by kernel_rfl)
 go_wp2
 exact bodyPost_ret (br Tryd.results55 rfl hl) rfl ⟨_,rfl,r43,b45⟩
theorem piOf_W (g0 g1 g2:Bool)(a b c k:Nat)(w:World)
  (H0: ∀w1,yB w w1→yC 31 #[yi 18,yi k] w1 (RZs w1 g0 a))
  (F0: ∀w1,yC 32 #[yi 48] w1 (cG w1 48))
  (T0: ∀ao ac eo ec w1,yB w w1→Rd w1 .i64 (yS ao a ac) (Dg.dg 65536 a)→Rd w1 .i64 (yS eo 48 ec) (Dg.dg 65536 48)→yC 30 #[yS ao a ac,yS eo 48 ec] w1 (cG w1 (a*48)))
  (H1: ∀w1,yB w w1→yC 31 #[yi 57,yi k] w1 (RZs w1 g1 b))
  (F1: ∀w1,yC 32 #[yi 32] w1 (cG w1 32))
  (T1: ∀bo bc eo ec w1,yB w w1→Rd w1 .i64 (yS bo b bc) (Dg.dg 65536 b)→Rd w1 .i64 (yS eo 32 ec) (Dg.dg 65536 32)→yC 30 #[yS bo b bc,yS eo 32 ec] w1 (cG w1 (b*32)))
  (H2: ∀w1,yB w w1→yC 31 #[yi 239,yi k] w1 (RZs w1 g2 c))
  (F2: ∀w1,yC 32 #[yi 20] w1 (cG w1 20))
  (T2: ∀co cc eo ec w1,yB w w1→Rd w1 .i64 (yS co c cc) (Dg.dg 65536 c)→Rd w1 .i64 (yS eo 20 ec) (Dg.dg 65536 20)→yC 30 #[yS co c cc,yS eo 20 ec] w1 (cG w1 (c*20)))
  (HP: ∀Ao Ac Bo Bc w1,yB w w1→Rd w1 .i64 (.slice Ao (Dg.dg 65536 (a*48)).length Ac) (Dg.dg 65536 (a*48))→Rd w1 .i64 (.slice Bo (Dg.dg 65536 (b*32)).length Bc) (Dg.dg 65536 (b*32))→yC 34 #[.slice Ao (Dg.dg 65536 (a*48)).length Ac,.slice Bo (Dg.dg 65536 (b*32)).length Bc] w1 (cG w1 (a*48+b*32)))
  (HL: ∀so sc Co Cc w1,yB w w1→Rd w1 .i64 (.slice so (Dg.dg 65536 (a*48+b*32)).length sc) (Dg.dg 65536 (a*48+b*32))→Rd w1 .i64 (.slice Co (Dg.dg 65536 (c*20)).length Cc) (Dg.dg 65536 (c*20))→yC 33 #[.slice so (Dg.dg 65536 (a*48+b*32)).length sc,.slice Co (Dg.dg 65536 (c*20)).length Cc] w1 (cG w1 (a*48+b*32-c*20))):
  yC 12 #[yi k] w (RZs w false (a*48+b*32-c*20)):=by
 replace H0:Hid _:=H0;replace F0:Hid _:=F0;replace T0:Hid _:=T0;replace H1:Hid _:=H1;replace F1:Hid _:=F1;replace T1:Hid _:=T1;replace H2:Hid _:=H2;replace F2:Hid _:=F2;replace T2:Hid _:=T2;replace HP:Hid _:=HP;replace HL:Hid _:=HL;have hfd:=field_z;obtain⟨W3,hW4,q1,b2⟩:=cA w [.bool false,yN] 41;replace hW4:Hid _:=hW4
 go_enter Tryd.func12,Tryd.ntmps12
 go_upto_region 1 with fail
 rw[hW4.out];clear hW4
 go_wp2_with fail
 refine(H0.out _ b2).mono ?_;rintro zz w5 ⟨v1x7,rfl,r1x8,bb6⟩;have q9:=q1.l bb6;have b10:=aa b2 bb6;obtain⟨ao,ac,hv⟩:=r1x8.shape;subst hv;clear q1 b2 bb6 H0
 go_wp2_with fail
 refine(F0.out _).mono ?_;rintro zz w11 ⟨v1x13,rfl,r1x14,bb12⟩;have q15:=q9.l bb12;have r16:=r1x8.l bb12;have b17:=aa b10 bb12;obtain⟨eo,ec,hv⟩:=r1x14.shape;subst hv;clear q9 r1x8 b10 bb12 F0
 go_wp2_with fail
 refine(T0.out _ _ _ _ _ b17 r16 r1x14).mono ?_;rintro zz w18 ⟨v1x20,rfl,r1x21,bb19⟩;have q22:=q15.l bb19;have r23:=r16.l bb19;have r24:=r1x14.l bb19;have b25:=aa b17 bb19;obtain⟨Ao,Ac,hv⟩:=r1x21.shape;subst hv;clear q15 r16 r1x14 b17 bb19 T0
 go_wp2_with fail
 refine(H1.out _ b25).mono ?_;rintro zz w26 ⟨v1x28,rfl,r1x29,bb27⟩;have q30:=q22.l bb27;have r31:=r23.l bb27;have r32:=r24.l bb27;have r33:=r1x21.l bb27;have b34:=aa b25 bb27;obtain⟨bo,bc,hv⟩:=r1x29.shape;subst hv;clear q22 r23 r24 r1x21 b25 bb27 H1
 go_wp2_with fail
 refine(F1.out _).mono ?_;rintro zz w35 ⟨v1x37,rfl,r1x38,bb36⟩;have q39:=q30.l bb36;have r40:=r31.l bb36;have r41:=r32.l bb36;have r42:=r33.l bb36;have r43:=r1x29.l bb36;have b44:=aa b34 bb36;obtain⟨eo,ec,hv⟩:=r1x38.shape;subst hv;clear q30 r31 r32 r33 r1x29 b34 bb36 F1
 go_wp2_with fail
 refine(T1.out _ _ _ _ _ b44 r43 r1x38).mono ?_;rintro zz w45 ⟨v1x47,rfl,r1x48,bb46⟩;have q49:=q39.l bb46;have r50:=r40.l bb46;have r51:=r1x38.l bb46;have r52:=r42.l bb46;have r53:=r43.l bb46;have b54:=aa b44 bb46;obtain⟨Bo,Bc,hv⟩:=r1x48.shape;subst hv;clear q39 r40 r1x38 r42 r43 b44 bb46 T1
 go_wp2_with fail
 refine(H2.out _ b54).mono ?_;rintro zz w55 ⟨v1x57,rfl,r1x58,bb56⟩;have q59:=q49.l bb56;have r60:=r50.l bb56;have r61:=r51.l bb56;have r62:=r52.l bb56;have r63:=r53.l bb56;have r64:=r1x48.l bb56;have b65:=aa b54 bb56;obtain⟨co,cc,hv⟩:=r1x58.shape;subst hv;clear q49 r50 r51 r52 r53 r1x48 b54 bb56 H2
 go_wp2_with fail
 refine(F2.out _).mono ?_;rintro zz w66 ⟨v1x68,rfl,r1x69,bb67⟩;have q70:=q59.l bb67;have r71:=r60.l bb67;have r72:=r61.l bb67;have r73:=r62.l bb67;have r74:=r63.l bb67;have r75:=r64.l bb67;have r76:=r1x58.l bb67;have b77:=aa b65 bb67;obtain⟨eo,ec,hv⟩:=r1x69.shape;subst hv;clear q59 r60 r61 r62 r63 r64 r1x58 b65 bb67 F2
 go_wp2_with fail
 refine(T2.out _ _ _ _ _ b77 r76 r1x69).mono ?_;rintro zz w78 ⟨v1x80,rfl,r1x81,bb79⟩;have q82:=q70.l bb79;have r83:=r71.l bb79;have r84:=r1x69.l bb79;have r85:=r73.l bb79;have r86:=r74.l bb79;have r87:=r75.l bb79;have r88:=r76.l bb79;have b89:=aa b77 bb79;obtain⟨Co,Cc,hv⟩:=r1x81.shape;subst hv;clear q70 r71 r1x69 r73 r74 r75 r76 b77 bb79 T2
 go_wp2_with fail
 refine(HP.out _ _ _ _ _ b89 r85 r87).mono ?_;rintro zz w90 ⟨v1x92,rfl,r1x93,bb91⟩;have q94:=q82.l bb91;have r95:=r83.l bb91;have r96:=r84.l bb91;have r97:=r85.l bb91;have r98:=r86.l bb91;have r99:=r87.l bb91;have r100:=r88.l bb91;have r101:=r1x81.l bb91;have b102:=aa b89 bb91;obtain⟨so,sc,hv⟩:=r1x93.shape;subst hv;clear q82 r83 r84 r85 r86 r87 r88 r1x81 b89 bb91 HP
 go_wp2_with fail
 refine(HL.out _ _ _ _ _ b102 r1x93 r101).mono ?_;rintro zz w103 ⟨v1x105,rfl,r1x106,bb104⟩;have q107:=q94.l bb104;have r108:=r95.l bb104;have r109:=r96.l bb104;have r110:=r97.l bb104;have r111:=r98.l bb104;have r112:=r99.l bb104;have r113:=r100.l bb104;have r114:=r101.l bb104;have r115:=r1x93.l bb104;have b116:=aa b102 bb104;obtain⟨yo,yc,hv⟩:=r1x106.shape;subst hv;clear q94 r95 r96 r97 r98 r99 r100 r101 r1x93 b102 bb104 HL;have hf:=fin2 (P:=Tryd.prog) q107 b116 (by omega) Tryd.underlying41 rfl (by kernel_rfl) (.bool false) (.slice yo (Dg.dg 65536 (a*48+b*32-c*20)).length yc);have HH:Hid (_∧_∧_):=⟨hf.1,hf.2.2.rd r1x106 (aX r1x106 q107 (by simp)),hf.2.1⟩;obtain⟨⟨z0,z1⟩,y0,y1⟩:=csf2 q107;clear hf q107 r108 r109 r110 r111 r112 r113 r114 r115 r1x106 b116
 go_wp2
 obtain⟨hl,rRy,bR⟩:=HH.out;exact bodyPost_ret (br Tryd.results12 rfl hl) rfl ⟨_,rfl,rRy,bR⟩
theorem narrow_W (m:Nat)(mo:Option Addr)(mc:Nat)(p e d:Int)(x y u v:ak)(w:World)(rm:Rd w .i64 (yS mo m mc) (Dg.dg 65536 m))(he:IntKind.i64.wrap (40-p)=e)(hd:IntKind.i64.wrap (-p)=d)
  (HB: ∀w1,yB w w1→Rd w1 .i64 (yS mo m mc) (Dg.dg 65536 m)→yC 29 #[ydV false (yS mo m mc) d] w1 (dr w1 x))
  (HM: ∀q w1,yB w w1→au w1 q 3 [yi 1]→yC 28 #[ydV false (.slice (some ⟨q,0,none⟩) 1 1) e] w1 (dr w1 y))
  (H1: ∀xo xc yo yc w1,yB w w1→Rd w1 .i64 (yS xo x.n xc) (Dg.dg 65536 x.n)→Rd w1 .i64 (yS yo y.n yc) (Dg.dg 65536 y.n)→yC 27 #[yMV x xo xc,yMV y yo yc] w1 (dr w1 u))
  (H2: ∀xo xc q w1,yB w w1→Rd w1 .i64 (yS xo x.n xc) (Dg.dg 65536 x.n)→au w1 q 3 [yi 1]→yC 27 #[yMV x xo xc,ydV false (.slice (some ⟨q,0,none⟩) 1 1) e] w1 (dr w1 v)):
  yC 11 #[yS mo m mc,yi p] w (tR w u v):=by
 replace HB:Hid _:=HB;replace HM:Hid _:=HM;replace H1:Hid _:=H1;replace H2:Hid _:=H2;obtain⟨W3,hW4,q1,b2⟩:=cA w [.bool false,yN,yi 0,.bool false,yN,yi 0] 38;replace hW4:Hid _:=hW4;have r5:=rm.l b2;clear rm
 go_enter Tryd.func11,Tryd.ntmps11
 go_upto_region 1 with fail
 rw[hW4.out];clear hW4;have hl8:=q1.lt;have al6:=af W3 (.cells #[yi 1] 3);have q7:=ah W3 [yi 1] 3;have q9:=q1.l al6;have r10:=r5.l al6;have b11:=aa b2 al6;obtain⟨W14,hW13,q15,al12⟩:=cA (W3.alloc (.cells #[yi 1] 3)) (ydL false (.slice (some ⟨W3.heap.size,0,none⟩) 1 1) e) 36;replace hW13:Hid _:=hW13;have hl16:w.heap.size≤(W3.alloc (.cells #[yi 1] 3)).heap.size:=b11.size;have hl17:=q9.lt;have hl18:=q7.lt;simp only[World.size_alloc] at q15 hl16 hl17 hl18;have q19:=q9.l al12;have q20:=q7.l al12;have r21:=r10.l al12;have b22:=aa b11 al12;clear q9 q7 r10 b11 al12 q1 r5 b2 al6
 go_upto_region 2 with fail
 rw[hW13.out];clear hW13
 go_wp2_with fail
 refine(HB.out _ b22 r21).mono ?_;rintro zz w23 ⟨v1x25,rfl,r1x26,bb24⟩;have q27:=q19.l bb24;have q28:=q20.l bb24;have q29:=q15.l bb24;have r30:=r21.l bb24;have b31:=aa b22 bb24;obtain⟨xo,xc,hv⟩:=r1x26.shape;subst hv;clear q19 q20 q15 r21 b22 bb24 HB;obtain⟨W34,hW33,q35,al32⟩:=cA w23 (yML x xo xc) 36;replace hW33:Hid _:=hW33;have hl36:w.heap.size≤w23.heap.size:=b31.size;have hl37:=q27.lt;have hl38:=q28.lt;have hl39:=q29.lt;have q40:=q27.l al32;have q41:=q28.l al32;have q42:=q29.l al32;have r43:=r30.l al32;have r44:=r1x26.l al32;have b45:=aa b31 al32;clear q27 q28 q29 r30 r1x26 b31 al32
 go_upto_region 3 with fail
 rw[hW33.out];clear hW33
 go_upto_region 3 with fail
 have bW46:yB W34 W34.drew:=(Below.refl _ _).drew;have q47:=q40.l bW46;have q48:=q41.l bW46;have q49:=q42.l bW46;have q50:=q35.l bW46;have r51:=r43.l bW46;have r52:=r44.l bW46;have b53:=aa b45 bW46;clear q40 q41 q42 q35 r43 r44 b45 bW46;refine wp_region_held_drew (S:=fun wq=>au wq (W3.heap.size+1) 36 (ydL false (.slice (some ⟨W3.heap.size,0,none⟩) 1 1) e)∧au wq w23.heap.size 36 (yML x xo xc)) (by kernel_rfl) ⟨q49,q50⟩ (fun hS0=> ?_)
 generalize W34.drew=WD54 at q47 q48 q49 q50 r51 r52 b53 hS0⊢;refine tq 0 (yMV x xo xc) rfl (fun _ hw0=>fy 36 (.tmp 6) rfl w23.heap.size 0 (by kernel_rfl) _ _ hw0.2.range Tryd.underlying36 rfl (by kernel_rfl)) hS0 ?_
 refine tq 1 (ydV false (.slice (some ⟨W3.heap.size,0,none⟩) 1 1) e) rfl (fun _ hw0=>fy 36 (.tmp 5) rfl (W3.heap.size+1) 0 (by kernel_rfl) _ _ hw0.1.range Tryd.underlying36 rfl (by kernel_rfl)) hS0 ?_
 refine tq 4 (yMV x xo xc) rfl (fun _ hw0=>fy 36 (.tmp 6) rfl w23.heap.size 0 (by kernel_rfl) _ _ hw0.2.range Tryd.underlying36 rfl (by kernel_rfl)) hS0 ?_
 refine tq 5 (ydV false (.slice (some ⟨W3.heap.size,0,none⟩) 1 1) e) rfl (fun _ hw0=>fy 36 (.tmp 5) rfl (W3.heap.size+1) 0 (by kernel_rfl) _ _ hw0.1.range Tryd.underlying36 rfl (by kernel_rfl)) hS0 ?_
 refine wpAnyH_ready (rs:=[2]) (by kernel_rfl) (by simp) ?_;refine AllReadyH.cons rfl (fun K hK=> ?_) AllReadyH.nil
 go_simp
 refine(HM.out _ _ b53 q48).mono ?_;rintro zz w55 ⟨v1x57,rfl,r1x58,bb56⟩;have q59:=q47.l bb56;have q60:=q48.l bb56;have q61:=q49.l bb56;have q62:=q50.l bb56;have r63:=r51.l bb56;have r64:=r52.l bb56;have b65:=aa b53 bb56;obtain⟨yo,yc,hv⟩:=r1x58.shape;subst hv;clear q47 q48 q49 q50 r51 r52 b53 bb56 HM;refine hK.out _ _ ⟨q61,q62⟩ (fun hS66=> ?_)
 clear hK K;refine wpAnyH_ready (rs:=[3]) (by kernel_rfl) (by simp) ?_;refine AllReadyH.cons rfl (fun K hK=> ?_) AllReadyH.nil
 go_simp
 refine(H1.out _ _ _ _ _ b65 r64 r1x58).mono ?_;rintro zz w67 ⟨v1x69,rfl,r1x70,bb68⟩;have q71:=q59.l bb68;have q72:=q60.l bb68;have q73:=q61.l bb68;have q74:=q62.l bb68;have r75:=r63.l bb68;have r76:=r64.l bb68;have r77:=r1x58.l bb68;have b78:=aa b65 bb68;obtain⟨uo,uc,hv⟩:=r1x70.shape;subst hv;clear q59 q60 q61 q62 r63 r64 r1x58 b65 bb68 H1;refine hK.out _ _ ⟨q73,q74⟩ (fun hS79=> ?_)
 clear hK K;refine wpAnyH_ready (rs:=[6]) (by kernel_rfl) (by simp) ?_;refine AllReadyH.cons rfl (fun K hK=> ?_) AllReadyH.nil
 go_simp
 refine(H2.out _ _ _ _ b78 r76 q72).mono ?_;rintro zz w80 ⟨v1x82,rfl,r1x83,bb81⟩;have q84:=q71.l bb81;have q85:=q73.l bb81;have q86:=q74.l bb81;have r87:=r75.l bb81;have r88:=r76.l bb81;have r89:=r77.l bb81;have r90:=r1x70.l bb81;have b91:=aa b78 bb81;obtain⟨vo,vc,hv⟩:=r1x83.shape;subst hv;clear q71 q72 q73 q74 r75 r76 r77 r1x70 b78 bb81 H2;refine hK.out _ _ ⟨q85,q86⟩ (fun hS92=> ?_)
 clear hK K;refine tq 7 (.agg #[.bool u.s,yS uo u.n uc,yi u.e,.bool v.s,yS vo v.n vc,yi v.e]) rfl (fun _ _=>by kernel_rfl) hS92 ?_
 refine wpAnyH_ready (rs:=[8]) (by kernel_rfl) (by simp) ?_;refine AllReadyH.cons rfl (fun K hK=> ?_) AllReadyH.nil
 have bu:But w.heap.size w80 (w80.setCells w.heap.size 0 [.bool u.s,yS uo u.n uc,yi u.e,.bool v.s,yS vo v.n vc,yi v.e]):=de _ _ _ _;have hth:w80.there w.heap.size 0 6:=dD q84;have q93:au (w80.setCells w.heap.size 0 [.bool u.s,yS uo u.n uc,yi u.e,.bool v.s,yS vo v.n vc,yi v.e]) w.heap.size 38 [.bool u.s,yS uo u.n uc,yi u.e,.bool v.s,yS vo v.n vc,yi v.e]:=q84.sets _ rfl;have r94:=bu.rd r87 (cq r87 (Dg.norm_dg _ _ (by omega)) q84 (fun x hx n hn=>by simp at hx;rcases hx with rfl|rfl|rfl|rfl|rfl|rfl<;>simp;all_goals omega))
 have r95:=bu.rd r88 (cq r88 (Dg.norm_dg _ _ (by omega)) q84 (fun x hx n hn=>by simp at hx;rcases hx with rfl|rfl|rfl|rfl|rfl|rfl<;>simp;all_goals omega))
 have r96:=bu.rd r89 (cq r89 (Dg.norm_dg _ _ (by omega)) q84 (fun x hx n hn=>by simp at hx;rcases hx with rfl|rfl|rfl|rfl|rfl|rfl<;>simp;all_goals omega))
 have r97:=bu.rd r90 (cq r90 (Dg.norm_dg _ _ (by omega)) q84 (fun x hx n hn=>by simp at hx;rcases hx with rfl|rfl|rfl|rfl|rfl|rfl<;>simp;all_goals omega))
 have r98:=bu.rd r1x83 (cq r1x83 (Dg.norm_dg _ _ (by omega)) q84 (fun x hx n hn=>by simp at hx;rcases hx with rfl|rfl|rfl|rfl|rfl|rfl<;>simp;all_goals omega))
 have q99:=bu.loc q85 (by omega);have q100:=bu.loc q86 (by omega);have b101:=bu.below b91 (by omega);rw[if_pos (by kernel_rfl)];refine wp_store_mid 38 (.tmp 4) (.tmp 23) rfl w.heap.size 0 #[.bool u.s,yS uo u.n uc,yi u.e,.bool v.s,yS vo v.n vc,yi v.e] (by kernel_rfl) (by kernel_rfl) hth (by kernel_rfl) (by simp[Value.oneCell']) ?_;refine hK.out _ _ ⟨q99,q100⟩ (fun hS102=> ?_)
 clear hK K;clear q84 r87 r88 r89 r90 r1x83 q85 q86 b91 bu hth;refine wpAnyH_done (by kernel_rfl) ?_ _;clear hS0 hS66 hS79 hS92 hS102;change Exit.then _ _ _ _ (World.setCells w80 w.heap.size 0 [.bool u.s,yS uo u.n uc,yi u.e,.bool v.s,yS vo v.n vc,yi v.e]);generalize World.setCells w80 w.heap.size 0 [.bool u.s,yS uo u.n uc,yi u.e,.bool v.s,yS vo v.n vc,yi v.e]=W103 at q93 q99 q100 r94 r95 r96 r97 r98 b101⊢;simp only[Act.put,List.getElem_toArray,List.getElem_cons_succ,List.getElem_cons_zero];have hl:=run_loadVar_mid (P:=Tryd.prog) _ (w.heap.size) 0 38 [.bool u.s,yS uo u.n uc,yi u.e,.bool v.s,yS vo v.n vc,yi v.e] _ q93.range Tryd.underlying38 rfl (by kernel_rfl)
 go_wp2
 exact bodyPost_ret (br Tryd.results11 rfl hl) rfl ⟨_,_,rfl,r97,r98,b101⟩
theorem bracketed_W (a b:ak)(ao bo:Option Addr)(ac bc:Nat)(p q:ak)(po qo:Option Addr)(pc qc:Nat)(x y z u:ak)(n e c1 c2 c3:Int)(w:World)(he:IntKind.i64.wrap (4-n)=e)(h1:c1≤0)(h2:c2≤0)(h3:c3≤0)
  (HC:yH w 25 #[.agg #[.bool a.s,yT ao a.n ac,yi a.e,.bool b.s,yT bo b.n bc,yi b.e]] (yi 0))
  (HO: ∀w1,yB w w1→yC 26 #[.agg #[.bool a.s,yT ao a.n ac,yi a.e,.bool b.s,yT bo b.n bc,yi b.e]] w1 (tR w1 x y))
  (HM: ∀xo xc w1,yB w w1→Rd w1 .i64 (yS xo x.n xc) (Dg.dg 65536 x.n)→yC 28 #[yMV x xo xc] w1 (dr w1 z))
  (HP: ∀yo yc zo zc w1,yB w w1→Rd w1 .i64 (yS yo y.n yc) (Dg.dg 65536 y.n)→Rd w1 .i64 (yS zo z.n zc) (Dg.dg 65536 z.n)→yC 27 #[yMV y yo yc,yMV z zo zc] w1 (dr w1 u))
  (D1: ∀xo xc w1,yB w w1→Rd w1 .i64 (yS xo x.n xc) (Dg.dg 65536 x.n)→yC 21 #[yMV x xo xc,yMV q qo qc] w1 (yR w1 (yi c1)))
  (D2: ∀yo yc w1,yB w w1→Rd w1 .i64 (yS yo y.n yc) (Dg.dg 65536 y.n)→yC 21 #[yMV p po pc,yMV y yo yc] w1 (yR w1 (yi c2)))
  (D3: ∀uo uc r w1,yB w w1→Rd w1 .i64 (yS uo u.n uc) (Dg.dg 65536 u.n)→au w1 r 3 [yi 1]→yC 21 #[yMV u uo uc,ydV false (.slice (some ⟨r,0,none⟩) 1 1) e] w1 (yR w1 (yi c3))):
  yC 10 #[.agg #[.bool a.s,yT ao a.n ac,yi a.e,.bool b.s,yT bo b.n bc,yi b.e],.agg #[.bool p.s,yS po p.n pc,yi p.e,.bool q.s,yS qo q.n qc,yi q.e],yi n] w (yR w (.bool true)):=by
 replace HC:Hid _:=HC;replace HO:Hid _:=HO;replace HM:Hid _:=HM;replace HP:Hid _:=HP;replace D1:Hid _:=D1;replace D2:Hid _:=D2;replace D3:Hid _:=D3;obtain⟨W4,hW5,q1,q2,b3⟩:=iG w [.bool a.s,yT ao a.n ac,yi a.e,.bool b.s,yT bo b.n bc,yi b.e] 27 [.bool p.s,yS po p.n pc,yi p.e,.bool q.s,yS qo q.n qc,yi q.e] 38;replace hW5:Hid _:=hW5
 go_enter Tryd.func10,Tryd.ntmps10
 go_upto_region 1 with fail
 rw[hW5.out];clear hW5;obtain⟨c6,c7,c8,c9,c10,c11⟩:=q1.cs6
 go_wp2_with fail
 refine(HC.out _ b3).mono ?_;rintro zz w12 ⟨rfl,bb13⟩;have q14:=q1.l bb13;have q15:=q2.l bb13;have b16:=aa b3 bb13;clear q1 q2 b3 bb13 HC c6 c7 c8 c9 c10 c11;obtain⟨c17,c18,c19,c20,c21,c22⟩:=q14.cs6
 go_wp2_with fail
 refine(HO.out _ b16).mono ?_;rintro zz w23 ⟨v1x25,v2x26,rfl,r1x27,r2x28,bb24⟩;have q29:=q15.l bb24;have b30:=aa b16 bb24;obtain⟨xo,xc,hv⟩:=r1x27.shape;subst hv;obtain⟨yo,yc,hv⟩:=r2x28.shape;subst hv;clear q14 q15 b16 bb24 HO c17 c18 c19 c20 c21 c22;obtain⟨W33,hW32,q34,al31⟩:=cA w23 [.bool x.s,yS xo x.n xc,yi x.e,.bool y.s,yS yo y.n yc,yi y.e] 38;replace hW32:Hid _:=hW32;have hl35:w.heap.size≤w23.heap.size:=b30.size;have hl36:=q29.lt;have q37:=q29.l al31;have r38:=r1x27.l al31;have r39:=r2x28.l al31;have b40:=aa b30 al31;clear q29 r1x27 r2x28 b30 al31
 go_upto_region 4 with fail
 rw[hW32.out];clear hW32
 go_upto_region 4 with fail
 have bW41:yB W33 W33.drew:=(Below.refl _ _).drew;have q42:=q37.l bW41;have q43:=q34.l bW41;have r44:=r38.l bW41;have r45:=r39.l bW41;have b46:=aa b40 bW41;clear q37 q34 r38 r39 b40 bW41;refine wp_region_held_drew (S:=fun wq=>au wq w23.heap.size 38 [.bool x.s,yS xo x.n xc,yi x.e,.bool y.s,yS yo y.n yc,yi y.e]) (by kernel_rfl) q43 (fun hS0=> ?_)
 generalize W33.drew=WD47 at q42 q43 r44 r45 b46 hS0⊢;refine tq 0 (.pointer (some ⟨w23.heap.size,3,none⟩)) rfl (fun _ _=>by kernel_rfl) hS0 ?_
 refine tq 1 (yMV y yo yc) rfl (fun _ hw0=>fy 36 (.tmp 14) rfl w23.heap.size 3 (by kernel_rfl) _ _ (kY hw0 3 3 rfl) Tryd.underlying36 rfl (by kernel_rfl)) hS0 ?_
 refine tq 2 (.pointer (some ⟨w23.heap.size,0,none⟩)) rfl (fun _ _=>by kernel_rfl) hS0 ?_
 refine tq 3 (yMV x xo xc) rfl (fun _ hw0=>fy 36 (.tmp 16) rfl w23.heap.size 0 (by kernel_rfl) _ _ (kY hw0 0 3 rfl) Tryd.underlying36 rfl (by kernel_rfl)) hS0 ?_
 refine wpAnyH_ready (rs:=[4,6]) (by kernel_rfl) (by simp) ?_;refine AllReadyH.cons rfl (fun K hK=> ?_) (AllReadyH.cons rfl (fun K hK=> ?_) AllReadyH.nil)
 ·go_simp
  refine(HM.out _ _ _ b46 r44).mono ?_;rintro zz w48 ⟨v1x50,rfl,r1x51,bb49⟩;have q52:=q42.l bb49;have q53:=q43.l bb49;have r54:=r44.l bb49;have r55:=r45.l bb49;have b56:=aa b46 bb49;obtain⟨zo,zc,hv⟩:=r1x51.shape;subst hv;clear q42 q43 r44 r45 b46 bb49 HM;refine hK.out _ _ q53 (fun hS57=> ?_)
  clear hK K;refine wpAnyH_ready (rs:=[5,6]) (by kernel_rfl) (by simp) ?_;refine AllReadyH.cons rfl (fun K hK=> ?_) (AllReadyH.cons rfl (fun K hK=> ?_) AllReadyH.nil)
  ·go_simp
   refine(HP.out _ _ _ _ _ b56 r55 r1x51).mono ?_;rintro zz w58 ⟨v1x60,rfl,r1x61,bb59⟩;have q62:=q52.l bb59;have q63:=q53.l bb59;have r64:=r54.l bb59;have r65:=r55.l bb59;have b66:=aa b56 bb59;obtain⟨uo,uc,hv⟩:=r1x61.shape;subst hv;clear q52 q53 r54 r55 r1x51 b56 bb59 HP;refine hK.out _ _ q63 (fun hS67=> ?_)
   clear hK K;refine wpAnyH_ready (rs:=[6]) (by kernel_rfl) (by simp) ?_;refine AllReadyH.cons rfl (fun K hK=> ?_) AllReadyH.nil
   go_simp
   have al68:=af w58 (.cells (ydA false yN 0) 36);have q69:=ah w58 (ydL false yN 0) 36;have hl72:w.heap.size≤w58.heap.size:=b66.size;have hl73:=q62.lt;have hl74:=q63.lt;have q75:=q62.l al68;have q76:=q63.l al68;have r77:=r64.l al68;have r78:=r65.l al68;have r79:=r1x61.l al68;have b80:=aa b66 al68;refine hK.out _ _ q76 (fun hS81=> ?_)
   clear hK K;clear q62 q63 r64 r65 r1x61 b66 al68;generalize w58.alloc (.cells (ydA false yN 0) 36)=WN70 at q75 q76 q69 r77 r78 r79 b80 hS81⊢;generalize w58.heap.size=PQ71 at q69 hl72 hl73 hl74⊢;refine wpAnyH_ready (rs:=[7]) (by kernel_rfl) (by simp) ?_;refine AllReadyH.cons rfl (fun K hK=> ?_) AllReadyH.nil
   have bu:But PQ71 WN70 (WN70.setCells PQ71 0 (yML u uo uc)):=de _ _ _ _;have hth:WN70.there PQ71 0 3:=dD q69;have q82:au (WN70.setCells PQ71 0 (yML u uo uc)) PQ71 36 (yML u uo uc):=q69.sets _ rfl;have r83:=bu.rd r77 (cq r77 (Dg.norm_dg _ _ (by omega)) q69 (fun x hx n hn=>by simp at hx;rcases hx with rfl|rfl|rfl<;>simp;all_goals omega))
   have r84:=bu.rd r78 (cq r78 (Dg.norm_dg _ _ (by omega)) q69 (fun x hx n hn=>by simp at hx;rcases hx with rfl|rfl|rfl<;>simp;all_goals omega))
   have r85:=bu.rd r79 (cq r79 (Dg.norm_dg _ _ (by omega)) q69 (fun x hx n hn=>by simp at hx;rcases hx with rfl|rfl|rfl<;>simp;all_goals omega))
   have q86:=bu.loc q75 (by omega);have q87:=bu.loc q76 (by omega);have b88:=bu.below b80 (by omega);rw[if_pos (by kernel_rfl)];refine wp_store_mid 36 (.tmp 8) (.tmp 19) rfl PQ71 0 (yMA u uo uc) (by kernel_rfl) (by kernel_rfl) hth (by kernel_rfl) (by simp[Value.oneCell']) ?_;refine hK.out _ _ q87 (fun hS89=> ?_)
   clear hK K;clear q69 r77 r78 r79 q75 q76 b80 bu hth;refine wpAnyH_done (by kernel_rfl) ?_ _;clear hS0 hS57 hS67 hS81 hS89;change Exit.then _ _ _ _ (World.setCells WN70 PQ71 0 (yML u uo uc));generalize World.setCells WN70 PQ71 0 (yML u uo uc)=W90 at q86 q87 q82 r83 r84 r85 b88⊢;simp only[Act.put,List.getElem_toArray,List.getElem_cons_succ,List.getElem_cons_zero];have c91:=q86.c 3 rfl;have c92:=q86.c 4 rfl;have c93:=q86.c 5 rfl;have c94:=q87.c 0 rfl;have c95:=q87.c 1 rfl;have c96:=q87.c 2 rfl
   go_wp2_with fail
   refine(D1.out _ _ _ b88 r83).mono ?_;rintro zz w97 ⟨rfl,bb98⟩;have q99:=q86.l bb98;have q100:=q87.l bb98;have q101:=q82.l bb98;have r102:=r84.l bb98;have r103:=r85.l bb98;have b104:=aa b88 bb98;clear q86 q87 q82 r83 r84 r85 b88 bb98 D1 c91 c92 c93 c94 c95 c96;have c105:=q99.c 0 rfl;have c106:=q99.c 1 rfl;have c107:=q99.c 2 rfl;have c108:=q100.c 3 rfl;have c109:=q100.c 4 rfl;have c110:=q100.c 5 rfl
   go_wp2_with fail
   refine(D2.out _ _ _ b104 r102).mono ?_;rintro zz w111 ⟨rfl,bb112⟩;have q113:=q101.l bb112;have r114:=r103.l bb112;have b115:=aa b104 bb112;clear q99 q100 q101 r102 r103 b104 bb112 D2 c105 c106 c107 c108 c109 c110;obtain⟨c116,c117,c118⟩:=q113.cs3;have al119:=af w111 (.cells #[yi 1] 3);have q120:=ah w111 [yi 1] 3;have r121:=r114.l al119;have b122:=aa b115 al119
   go_wp2_with fail
   refine(D3.out _ _ _ _ b122 r121 q120).mono ?_;rintro zz w123 ⟨rfl,bb124⟩;have b125:=aa b122 bb124;clear q120 r121 b122 bb124 D3 c116 c117 c118 q113 r114 b115 al119
   go_wp2
   go_ret
   exact⟨by simp,b125⟩
  ·go_simp
   have al58:=af w48 (.cells (ydA false yN 0) 36);have q59:=ah w48 (ydL false yN 0) 36;have hl62:w.heap.size≤w48.heap.size:=b56.size;have hl63:=q52.lt;have hl64:=q53.lt;have q65:=q52.l al58;have q66:=q53.l al58;have r67:=r54.l al58;have r68:=r55.l al58;have r69:=r1x51.l al58;have b70:=aa b56 al58;refine hK.out _ _ q66 (fun hS71=> ?_)
   clear hK K;clear q52 q53 r54 r55 r1x51 b56 al58;generalize w48.alloc (.cells (ydA false yN 0) 36)=WN60 at q65 q66 q59 r67 r68 r69 b70 hS71⊢;generalize w48.heap.size=PQ61 at q59 hl62 hl63 hl64⊢;refine wpAnyH_ready (rs:=[5]) (by kernel_rfl) (by simp) ?_;refine AllReadyH.cons rfl (fun K hK=> ?_) AllReadyH.nil
   go_simp
   refine(HP.out _ _ _ _ _ b70 r68 r69).mono ?_;rintro zz w72 ⟨v1x74,rfl,r1x75,bb73⟩;have q76:=q65.l bb73;have q77:=q66.l bb73;have q78:=q59.l bb73;have r79:=r67.l bb73;have r80:=r68.l bb73;have b81:=aa b70 bb73;obtain⟨uo,uc,hv⟩:=r1x75.shape;subst hv;clear q65 q66 q59 r67 r68 r69 b70 bb73 HP;refine hK.out _ _ q77 (fun hS82=> ?_)
   clear hK K;refine wpAnyH_ready (rs:=[7]) (by kernel_rfl) (by simp) ?_;refine AllReadyH.cons rfl (fun K hK=> ?_) AllReadyH.nil
   have bu:But PQ61 w72 (w72.setCells PQ61 0 (yML u uo uc)):=de _ _ _ _;have hth:w72.there PQ61 0 3:=dD q78;have q83:au (w72.setCells PQ61 0 (yML u uo uc)) PQ61 36 (yML u uo uc):=q78.sets _ rfl;have r84:=bu.rd r79 (cq r79 (Dg.norm_dg _ _ (by omega)) q78 (fun x hx n hn=>by simp at hx;rcases hx with rfl|rfl|rfl<;>simp;all_goals omega))
   have r85:=bu.rd r80 (cq r80 (Dg.norm_dg _ _ (by omega)) q78 (fun x hx n hn=>by simp at hx;rcases hx with rfl|rfl|rfl<;>simp;all_goals omega))
   have r86:=bu.rd r1x75 (cq r1x75 (Dg.norm_dg _ _ (by omega)) q78 (fun x hx n hn=>by simp at hx;rcases hx with rfl|rfl|rfl<;>simp;all_goals omega))
   have q87:=bu.loc q76 (by omega);have q88:=bu.loc q77 (by omega);have b89:=bu.below b81 (by omega);rw[if_pos (by kernel_rfl)];refine wp_store_mid 36 (.tmp 8) (.tmp 19) rfl PQ61 0 (yMA u uo uc) (by kernel_rfl) (by kernel_rfl) hth (by kernel_rfl) (by simp[Value.oneCell']) ?_;refine hK.out _ _ q88 (fun hS90=> ?_)
   clear hK K;clear q78 r79 r80 r1x75 q76 q77 b81 bu hth;refine wpAnyH_done (by kernel_rfl) ?_ _;clear hS0 hS57 hS71 hS82 hS90;change Exit.then _ _ _ _ (World.setCells w72 PQ61 0 (yML u uo uc));generalize World.setCells w72 PQ61 0 (yML u uo uc)=W91 at q87 q88 q83 r84 r85 r86 b89⊢;simp only[Act.put,List.getElem_toArray,List.getElem_cons_succ,List.getElem_cons_zero];have c92:=q87.c 3 rfl;have c93:=q87.c 4 rfl;have c94:=q87.c 5 rfl;have c95:=q88.c 0 rfl;have c96:=q88.c 1 rfl;have c97:=q88.c 2 rfl
   go_wp2_with fail
   refine(D1.out _ _ _ b89 r84).mono ?_;rintro zz w98 ⟨rfl,bb99⟩;have q100:=q87.l bb99;have q101:=q88.l bb99;have q102:=q83.l bb99;have r103:=r85.l bb99;have r104:=r86.l bb99;have b105:=aa b89 bb99;clear q87 q88 q83 r84 r85 r86 b89 bb99 D1 c92 c93 c94 c95 c96 c97;have c106:=q100.c 0 rfl;have c107:=q100.c 1 rfl;have c108:=q100.c 2 rfl;have c109:=q101.c 3 rfl;have c110:=q101.c 4 rfl;have c111:=q101.c 5 rfl
   go_wp2_with fail
   refine(D2.out _ _ _ b105 r103).mono ?_;rintro zz w112 ⟨rfl,bb113⟩;have q114:=q102.l bb113;have r115:=r104.l bb113;have b116:=aa b105 bb113;clear q100 q101 q102 r103 r104 b105 bb113 D2 c106 c107 c108 c109 c110 c111;obtain⟨c117,c118,c119⟩:=q114.cs3;have al120:=af w112 (.cells #[yi 1] 3);have q121:=ah w112 [yi 1] 3;have r122:=r115.l al120;have b123:=aa b116 al120
   go_wp2_with fail
   refine(D3.out _ _ _ _ b123 r122 q121).mono ?_;rintro zz w124 ⟨rfl,bb125⟩;have b126:=aa b123 bb125;clear q121 r122 b123 bb125 D3 c117 c118 c119 q114 r115 b116 al120
   go_wp2
   go_ret
   exact⟨by simp,b126⟩
 ·go_simp
  have al48:=af WD47 (.cells (ydA false yN 0) 36);have q49:=ah WD47 (ydL false yN 0) 36;have hl52:w.heap.size≤WD47.heap.size:=b46.size;have hl53:=q42.lt;have hl54:=q43.lt;have q55:=q42.l al48;have q56:=q43.l al48;have r57:=r44.l al48;have r58:=r45.l al48;have b59:=aa b46 al48;refine hK.out _ _ q56 (fun hS60=> ?_)
  clear hK K;clear q42 q43 r44 r45 b46 al48;generalize WD47.alloc (.cells (ydA false yN 0) 36)=WN50 at q55 q56 q49 r57 r58 b59 hS60⊢;generalize WD47.heap.size=PQ51 at q49 hl52 hl53 hl54⊢;refine wpAnyH_ready (rs:=[4]) (by kernel_rfl) (by simp) ?_;refine AllReadyH.cons rfl (fun K hK=> ?_) AllReadyH.nil
  go_simp
  refine(HM.out _ _ _ b59 r57).mono ?_;rintro zz w61 ⟨v1x63,rfl,r1x64,bb62⟩;have q65:=q55.l bb62;have q66:=q56.l bb62;have q67:=q49.l bb62;have r68:=r57.l bb62;have r69:=r58.l bb62;have b70:=aa b59 bb62;obtain⟨zo,zc,hv⟩:=r1x64.shape;subst hv;clear q55 q56 q49 r57 r58 b59 bb62 HM;refine hK.out _ _ q66 (fun hS71=> ?_)
  clear hK K;refine wpAnyH_ready (rs:=[5]) (by kernel_rfl) (by simp) ?_;refine AllReadyH.cons rfl (fun K hK=> ?_) AllReadyH.nil
  go_simp
  refine(HP.out _ _ _ _ _ b70 r69 r1x64).mono ?_;rintro zz w72 ⟨v1x74,rfl,r1x75,bb73⟩;have q76:=q65.l bb73;have q77:=q66.l bb73;have q78:=q67.l bb73;have r79:=r68.l bb73;have r80:=r69.l bb73;have b81:=aa b70 bb73;obtain⟨uo,uc,hv⟩:=r1x75.shape;subst hv;clear q65 q66 q67 r68 r69 r1x64 b70 bb73 HP;refine hK.out _ _ q77 (fun hS82=> ?_)
  clear hK K;refine wpAnyH_ready (rs:=[7]) (by kernel_rfl) (by simp) ?_;refine AllReadyH.cons rfl (fun K hK=> ?_) AllReadyH.nil
  have bu:But PQ51 w72 (w72.setCells PQ51 0 (yML u uo uc)):=de _ _ _ _;have hth:w72.there PQ51 0 3:=dD q78;have q83:au (w72.setCells PQ51 0 (yML u uo uc)) PQ51 36 (yML u uo uc):=q78.sets _ rfl;have r84:=bu.rd r79 (cq r79 (Dg.norm_dg _ _ (by omega)) q78 (fun x hx n hn=>by simp at hx;rcases hx with rfl|rfl|rfl<;>simp;all_goals omega))
  have r85:=bu.rd r80 (cq r80 (Dg.norm_dg _ _ (by omega)) q78 (fun x hx n hn=>by simp at hx;rcases hx with rfl|rfl|rfl<;>simp;all_goals omega))
  have r86:=bu.rd r1x75 (cq r1x75 (Dg.norm_dg _ _ (by omega)) q78 (fun x hx n hn=>by simp at hx;rcases hx with rfl|rfl|rfl<;>simp;all_goals omega))
  have q87:=bu.loc q76 (by omega);have q88:=bu.loc q77 (by omega);have b89:=bu.below b81 (by omega);rw[if_pos (by kernel_rfl)];refine wp_store_mid 36 (.tmp 8) (.tmp 19) rfl PQ51 0 (yMA u uo uc) (by kernel_rfl) (by kernel_rfl) hth (by kernel_rfl) (by simp[Value.oneCell']) ?_;refine hK.out _ _ q88 (fun hS90=> ?_)
  clear hK K;clear q78 r79 r80 r1x75 q76 q77 b81 bu hth;refine wpAnyH_done (by kernel_rfl) ?_ _;clear hS0 hS60 hS71 hS82 hS90;change Exit.then _ _ _ _ (World.setCells w72 PQ51 0 (yML u uo uc));generalize World.setCells w72 PQ51 0 (yML u uo uc)=W91 at q87 q88 q83 r84 r85 r86 b89⊢;simp only[Act.put,List.getElem_toArray,List.getElem_cons_succ,List.getElem_cons_zero];have c92:=q87.c 3 rfl;have c93:=q87.c 4 rfl;have c94:=q87.c 5 rfl;have c95:=q88.c 0 rfl;have c96:=q88.c 1 rfl;have c97:=q88.c 2 rfl
  go_wp2_with fail
  refine(D1.out _ _ _ b89 r84).mono ?_;rintro zz w98 ⟨rfl,bb99⟩;have q100:=q87.l bb99;have q101:=q88.l bb99;have q102:=q83.l bb99;have r103:=r85.l bb99;have r104:=r86.l bb99;have b105:=aa b89 bb99;clear q87 q88 q83 r84 r85 r86 b89 bb99 D1 c92 c93 c94 c95 c96 c97;have c106:=q100.c 0 rfl;have c107:=q100.c 1 rfl;have c108:=q100.c 2 rfl;have c109:=q101.c 3 rfl;have c110:=q101.c 4 rfl;have c111:=q101.c 5 rfl
  go_wp2_with fail
  refine(D2.out _ _ _ b105 r103).mono ?_;rintro zz w112 ⟨rfl,bb113⟩;have q114:=q102.l bb113;have r115:=r104.l bb113;have b116:=aa b105 bb113;clear q100 q101 q102 r103 r104 b105 bb113 D2 c106 c107 c108 c109 c110 c111;obtain⟨c117,c118,c119⟩:=q114.cs3;have al120:=af w112 (.cells #[yi 1] 3);have q121:=ah w112 [yi 1] 3;have r122:=r115.l al120;have b123:=aa b116 al120
  go_wp2_with fail
  refine(D3.out _ _ _ _ b123 r122 q121).mono ?_;rintro zz w124 ⟨rfl,bb125⟩;have b126:=aa b123 bb125;clear q121 r122 b123 bb125 D3 c117 c118 c119 q114 r115 b116 al120
  go_wp2
  go_ret
  exact⟨by simp,b126⟩
end Go.Proofs.YtiakgfmlpdfhdaaDoor

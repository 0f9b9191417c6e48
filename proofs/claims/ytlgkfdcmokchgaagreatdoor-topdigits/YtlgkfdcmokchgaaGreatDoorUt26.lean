/-
  Texts laid together: Aw0, Co14, Gm1, Co17, Tx7, Eh3, Cv6.
-/
import Derived.Test.YtlgkfdcmokchgaaGreatDoorUt18
import Derived.Test.YtlgkfdcmokchgaaGreatDoorUt20
import Derived.Test.YtlgkfdcmokchgaaGreatDoorUt21
set_option maxRecDepth 100000
set_option maxHeartbeats 12800000
namespace Go.Proofs.YtlgkfdcmokchgaaGreatDoor
open _root_.Go.Proofs.Tryz
open Go.RowKit
theorem afz {P:Program}{w0 w:World}{n b:Nat}{ty:TypeId}{z0 z1 z2 z3:Value}{d:TypeDesc}(h:au w b ty [z0,z1,z2,z3])(hb:Below n w0 w)(hn:n≤b)(hu:P.underlying ty=some d)(hd:d.isRow=true)(hi:(P.info? ty).map (·.size)=some 4)(v0 v1 v2 v3:Value):
  (loadVar ty ⟨b,0,none⟩).run P ((((w.setCell ⟨b,0,none⟩ v0).setCell ⟨b,1,none⟩ v1).setCell ⟨b,2,none⟩ v2).setCell ⟨b,3,none⟩ v3)= .ok (.agg #[v0,v1,v2,v3]) ((((w.setCell ⟨b,0,none⟩ v0).setCell ⟨b,1,none⟩ v1).setCell ⟨b,2,none⟩ v2).setCell ⟨b,3,none⟩ v3)∧Below n w0 ((((w.setCell ⟨b,0,none⟩ v0).setCell ⟨b,1,none⟩ v1).setCell ⟨b,2,none⟩ v2).setCell ⟨b,3,none⟩ v3)∧But b w ((((w.setCell ⟨b,0,none⟩ v0).setCell ⟨b,1,none⟩ v1).setCell ⟨b,2,none⟩ v2).setCell ⟨b,3,none⟩ v3):=by
 have cR:au ((((w.setCell ⟨b,0,none⟩ v0).setCell ⟨b,1,none⟩ v1).setCell ⟨b,2,none⟩ v2).setCell ⟨b,3,none⟩ v3) b ty [v0,v1,v2,v3]:=((((h.set 0 v0).set 1 v1).set 2 v2).set 3 v3);have bu:=(((ag w b 0 v0).trans (ag _ b 1 v1)).trans (ag _ b 2 v2)).trans (ag _ b 3 v3);exact⟨run_loadVar_mid (P:=P) _ b 0 ty [v0,v1,v2,v3] _ cR.range hu hd hi,bu.below hb hn,bu⟩
theorem acf (R D L G fam:Int)(gr:Bool)(sz ex fr:Nat)(F:Nat)(s:ByteArray)(ts:List Nat)(w:World)(hs:s.size=sz)(hlen:ts.length=sz)(hsm:Dg.Small 256 ts)(hfr:1+ex+fr=8*sz)(hex:ex≤15)(hsz:sz≤10)(hfr64:fr≤64)
  (HT: ∀g cap w1,ik w1 g (jr s)→yC F #[.slice (some ⟨g,0,none⟩) sz cap] w1 fun z w'=>z= .returned (.tuple #[])∧ik w' g ts∧w1.grownBy w' (some g))
  (HFR:yJ 144 #[ylV R D L G gr sz ex fam F] (yi fr))
  (HE: ∀args W,Sem.run Tryz.prog (callFunc F args) W= .ok (.enter F args) W):
  yC 98 #[ylV R D L G gr sz ex fam F,.string s] w (yR w (yfV (decide (eH ts 0 1=1)) ((eH ts 1 ex:Nat):Int) ((eH ts (1+ex) fr:Nat):Int))):=by
 have hsf:=cD;have l0:=(ah w (ylL R D L G gr sz ex fam F) 110).l (af _ (.cells (yfA false 0 0) 112));have m0:=ah (w.alloc (.cells (ylA R D L G gr sz ex fam F) 110)) (yfL false 0 0) 112;have b0:=aa (af w (.cells (ylA R D L G gr sz ex fam F) 110)) (af _ (.cells (yfA false 0 0) 112));rw[World.size_alloc] at m0;have H2:((w.alloc (.cells (ylA R D L G gr sz ex fam F) 110)).alloc (.cells (yfA false 0 0) 112)).heap.size=w.heap.size+2:=by rw[World.size_alloc,World.size_alloc]
 obtain⟨W1,cap,hrun,hrow,hbel⟩:=Uz (P:=Tryz.prog) ((w.alloc (.cells (ylA R D L G gr sz ex fam F) 110)).alloc (.cells (yfA false 0 0) 112)) 9 63 5 s underlying9 underlying63 underlying5;have l1:=l0.l hbel;have m1:=m0.l hbel;have b1:=aa b0 hbel;rw[H2] at hrun hrow;rw[hs] at hrun;obtain⟨g,hg⟩: ∃g,w.heap.size+2=g:=⟨_,rfl⟩;rw[hg] at hrun hrow;have x8:=l1.c 8 rfl;have HT':Hid _:=HT;have HFR':Hid _:=HFR;have HHg:Hid _:=hg;have HL:Hid (_∧_):=⟨hlen,hfr⟩;obtain⟨n0,hn0⟩: ∃n,eH ts 0 1=n:=⟨_,rfl⟩;obtain⟨n1,hn1⟩: ∃n,eH ts 1 ex=n:=⟨_,rfl⟩;obtain⟨n2,hn2⟩: ∃n,eH ts (1+ex) fr=n:=⟨_,rfl⟩;rw[hn0,hn1,hn2];have HN:Hid (_∧_∧_):=⟨hn0,hn1,hn2⟩;have hd0:((n0:Int)==1)=decide (n0=1):=by
  by_cases h:n0=1
  ·subst h;rfl
  ·rw[decide_eq_false h];simp;omega
 obtain⟨q0,hq0⟩: ∃q,decide (n0=1)=q:=⟨_,rfl⟩;rw[hq0] at hd0⊢;clear HT HFR hg hlen hfr hn0 hn1 hn2 hq0
 go_enter func98,ntmps98
 go_wp2_with fail
 refine(HT'.out _ _ _ hrow).mono ?_;rintro z w2 ⟨rfl,r2,g2⟩;have hgg:=HHg.out;have l2:=(l1.grown g2 (by omega)).drew;have m2:=(m1.grown g2 (by omega)).drew;have b2:=(b1.grown g2 b1.size (fun k h=>by cases h;omega)).drew
 have r2':=r2.drew;obtain⟨hlen,hfr⟩:=HL.out;have HB0:Hid (∀w1,ik w1 g ts→yC 143 #[.slice (some ⟨g,0,none⟩) sz cap,yi 0,yi 1] w1 fun z w'=>z= .returned (.int .u64 ((eH ts 0 1:Nat):Int))∧w1=w'):=fun w1 h=>by
  have:=Cr g cap ts 0 1 w1 h hsm (by omega) (by omega) (by omega);rw[hlen] at this;exact this.mono (fun _ _ h=>⟨h.1,h.2.symm⟩)
 have HB1:Hid (∀w1,ik w1 g ts→yC 143 #[.slice (some ⟨g,0,none⟩) sz cap,yi 1,yi ex] w1 fun z w'=>z= .returned (.int .u64 ((eH ts 1 ex:Nat):Int))∧w1=w'):=fun w1 h=>by
  have:=Cr g cap ts 1 ex w1 h hsm (by omega) (by omega) (by omega);rw[hlen] at this;exact this.mono (fun _ _ h=>⟨h.1,h.2.symm⟩)
 have HB2:Hid (∀w1,ik w1 g ts→yC 143 #[.slice (some ⟨g,0,none⟩) sz cap,yi (1+(ex:Int)),yi fr] w1 fun z w'=>z= .returned (.int .u64 ((eH ts (1+ex) fr:Nat):Int))∧w1=w'):=fun w1 h=>by
  have:=Cr g cap ts (1+ex) fr w1 h hsm (by omega) (by omega) (by omega);rw[hlen,show(((1+ex:Nat):Nat):Int)=1+(ex:Int) from by omega] at this
  exact this.mono (fun _ _ h=>⟨h.1,h.2.symm⟩)
 have h1l:=gh ts 1 ex;have h1p:(2:Nat)^ex≤2^15:=Nat.pow_le_pow_right (by omega) hex;obtain⟨hn0,hn1,hn2⟩:=HN.out;rw[hn0] at HB0;rw[hn1] at HB1 h1l;rw[hn2] at HB2;have hn1b:n1<32768:=by omega
 clear hn0 hn1 hn2 h1l h1p hlen hfr l0 l1 m0 m1 b0 b1 r2 hrow hrun hbel x8 H2 hgg;have hexI:(ex:Int)≤15:=by omega
 have hwr:IntKind.i64.wrap (1+(ex:Int))=1+(ex:Int):=IntWalk.i64_in _ ⟨by omega,by omega⟩;have hwn:IntKind.i64.wrap (n1:Int)=(n1:Int):=IntWalk.i64_in _ ⟨by omega,by omega⟩;obtain⟨x0,x1,x2,x3,x4,x5,x6,x7,x8⟩:=l2.cs9
 go_wp2_with fail
 go_region_held3 (fun wq=>wq.cell? ⟨w.heap.size,0,none⟩=some (yi R)∧wq.cell? ⟨w.heap.size,1,none⟩=some (yi D)∧wq.cell? ⟨w.heap.size,2,none⟩=some (yi L)∧wq.cell? ⟨w.heap.size,3,none⟩=some (yi G)∧wq.cell? ⟨w.heap.size,4,none⟩=some (.bool gr)∧wq.cell? ⟨w.heap.size,5,none⟩=some (yi sz)∧wq.cell? ⟨w.heap.size,6,none⟩=some (yi ex)∧wq.cell? ⟨w.heap.size,7,none⟩=some (yi fam)∧wq.cell? ⟨w.heap.size,8,none⟩=some (.func (.func F) #[] #[])) (go_keep) (first
  | (go_at_call 144;refine(HFR'.out _).mono ?_;rintro z w5 ⟨rfl,b5⟩;have l5:=l2.l b5;have m5:=m2.l b5;have b05:=aa b2 b5;have r5:=r2'.l b5;obtain⟨y0,y1,y2,y3,y4,y5,y6,y7,y8⟩:=l5.cs9;obtain⟨u0,u1,u2⟩:=m5.cs3;have f0:=m5.f 0;have f1:=m5.f 1;have f2:=m5.f 2)
  | (go_at_call 143;(with_reducible (refine(HB0.out _ (by assumption)).mono ?_));rintro z wv ⟨rfl,rfl⟩)
  | (go_at_call 143;(with_reducible (refine(HB1.out _ (by assumption)).mono ?_));rintro z wv ⟨rfl,rfl⟩)
  | (go_at_call 143;(with_reducible (refine(HB2.out _ (by assumption)).mono ?_));rintro z wv ⟨rfl,rfl⟩))
 have cR:au (((w5.setCell ⟨w.heap.size+1,0,none⟩ (.bool q0)).setCell ⟨w.heap.size+1,1,none⟩ (yi (n1:Int))).setCell ⟨w.heap.size+1,2,none⟩ (.int .u64 (n2:Int))) (w.heap.size+1) 112 (yfL q0 (n1:Int) (n2:Int)):=((m5.set 0 (.bool q0)).set 1 (yi (n1:Int))).set 2 (.int .u64 (n2:Int));have bR:=(((ag w5 (w.heap.size+1) 0 (.bool q0)).trans (ag _ (w.heap.size+1) 1 (yi (n1:Int)))).trans (ag _ (w.heap.size+1) 2 (.int .u64 (n2:Int)))).below b05 (by omega);have hl:=run_loadVar_mid (P:=Tryz.prog) _ (w.heap.size+1) 0 112 (yfL q0 (n1:Int) (n2:Int)) _ cR.range underlying112 rfl (by kernel_rfl);have HH:Hid (_∧_):=⟨hl,bR⟩;clear hl bR cR l2 m2 b2 l5 m5 b05
 go_wp2
 obtain⟨hl,bR⟩:=HH.out;exact bodyPost_ret (br results98 rfl hl) rfl ⟨rfl,bR⟩
theorem uh (R D L:Int)(gr:Bool)(N M:Nat)(E:Int)(h1:1≤D)(hN:N≠0)(hM:M≠0)(p:Int):io R D (cH R D L gr N M E)=cH R D L gr N M E∧gD R D (cH R D L gr N M E) p=p:=by
 have h:=rP R D L gr N M E h1 hN hM;unfold io gD;rw[if_neg (by omega),if_neg (by omega)];exact⟨rfl,rfl⟩
theorem CD (R D:Int)(d:Nat):io R D d=0↔d=0:=by
 unfold io;have h1:=bG (ai R*D.toNat);have h2:=bG (ai R*(D-1).toNat)
 split<;>omega
theorem N7 (n:Int)(R sz ex:Nat)(D L G fam:Int)(gr:Bool)(F:Nat)(ng:Bool)(e f:Nat)(s:ByteArray)(w:World)(hs:s.size=sz)
  (HL:yJ 79 #[yi n] (.tuple #[ylV R D L G gr sz ex fam F,yi 0]))
  (HR:yJ 98 #[ylV R D L G gr sz ex fam F,.string s] (yfV ng e f)):
  yC 53 #[yi n,.string s] w (yR w (.tuple #[ylV R D L G gr sz ex fam F,yfV ng e f,yi 0])):=by
 have hsf:=cD;have hsn:=gn;have bl:=af w (.cells (yzA 0 0 0 0 false 0 0 0) 110);have bf:=af (w.alloc (.cells (yzA 0 0 0 0 false 0 0 0) 110)) (.cells (yfA false 0 0) 112);have l0:=(ah w (yzL 0 0 0 0 false 0 0 0) 110).l bf;have m0:=ah (w.alloc (.cells (yzA 0 0 0 0 false 0 0 0) 110)) (yfL false 0 0) 112;have b0:=aa bl bf;rw[World.size_alloc] at m0;clear bl bf;have HL':Hid _:=HL;have HR':Hid _:=HR;clear HL HR
 go_enter func53,ntmps53
 go_wp2_with fail
 refine(HL'.out _).mono ?_;rintro z w1 ⟨rfl,b1⟩;have bq:=af w1 (.cells (ylA R D L G gr sz ex fam F) 110);have l1:=((l0.l b1).l bq).drew;have m1:=((m0.l b1).l bq).drew;have q1:=ah w1 (ylL R D L G gr sz ex fam F) 110;have b01:=(aa (aa b0 b1) bq).drew;have q1d:=q1.drew;have hne0:w.heap.size≠w1.heap.size:=Nat.ne_of_lt (l0.l b1).lt;have hne1:w.heap.size+1≠w1.heap.size:=Nat.ne_of_lt (m0.l b1).lt;obtain⟨p0,p1,p2,p3,p4,p5,p6,p7,p8⟩:=q1.cs9;have hsz:((s.size:Int) != (sz:Int))=false:=by rw[hs];simp
 go_wp2_with fail
 go_region_held3 (fun wq=>wq.cell? ⟨w1.heap.size,0,none⟩=some (yi R)∧wq.cell? ⟨w1.heap.size,1,none⟩=some (yi D)∧wq.cell? ⟨w1.heap.size,2,none⟩=some (yi L)∧wq.cell? ⟨w1.heap.size,3,none⟩=some (yi G)∧wq.cell? ⟨w1.heap.size,4,none⟩=some (.bool gr)∧wq.cell? ⟨w1.heap.size,5,none⟩=some (yi sz)∧wq.cell? ⟨w1.heap.size,6,none⟩=some (yi ex)∧wq.cell? ⟨w1.heap.size,7,none⟩=some (yi fam)∧wq.cell? ⟨w1.heap.size,8,none⟩=some (.func (.func F) #[] #[])) (go_keep) (first
  | (go_at_call 98;refine(HR'.out _).mono ?_;rintro z w2 ⟨rfl,b2⟩;have l2:=l1.l b2;have m2:=m1.l b2;have q2:=q1d.l b2;have b02:=aa b01 b2;obtain⟨x0,x1,x2,x3,x4,x5,x6,x7,x8⟩:=l2.cs9;have jx0:=l2.f 0;have jx1:=l2.f 1;have jx2:=l2.f 2;have jx3:=l2.f 3;have jx4:=l2.f 4;have jx5:=l2.f 5;have jx6:=l2.f 6;have jx7:=l2.f 7;have jx8:=l2.f 8;obtain⟨y0,y1,y2⟩:=m2.cs3;have jy0:=m2.f 0;have jy1:=m2.f 1;have jy2:=m2.f 2;obtain⟨s0,s1,s2,s3,s4,s5,s6,s7,s8⟩:=q2.cs9))
 have hn1:w.heap.size+1≠w.heap.size:=Nat.succ_ne_self _;have cL:au ((((((((((((w2.setCell ⟨w.heap.size,0,none⟩ (yi R)).setCell ⟨w.heap.size,1,none⟩ (yi D)).setCell ⟨w.heap.size,2,none⟩ (yi L)).setCell ⟨w.heap.size,3,none⟩ (yi G)).setCell ⟨w.heap.size,4,none⟩ (.bool gr)).setCell ⟨w.heap.size,5,none⟩ (yi sz)).setCell ⟨w.heap.size,6,none⟩ (yi ex)).setCell ⟨w.heap.size,7,none⟩ (yi fam)).setCell ⟨w.heap.size,8,none⟩ (.func (.func F) #[] #[])).setCell ⟨w.heap.size+1,0,none⟩ (.bool ng)).setCell ⟨w.heap.size+1,1,none⟩ (yi e)).setCell ⟨w.heap.size+1,2,none⟩ (.int .u64 f)) w.heap.size 110 (ylL R D L G gr sz ex fam F):=((((((((((((l2.set 0 (yi R)).set 1 (yi D)).set 2 (yi L)).set 3 (yi G)).set 4 (.bool gr)).set 5 (yi sz)).set 6 (yi ex)).set 7 (yi fam)).set 8 (.func (.func F) #[] #[])).off hn1 0 (.bool ng)).off hn1 1 (yi e)).off hn1 2 (.int .u64 f));have cM:au ((((((((((((w2.setCell ⟨w.heap.size,0,none⟩ (yi R)).setCell ⟨w.heap.size,1,none⟩ (yi D)).setCell ⟨w.heap.size,2,none⟩ (yi L)).setCell ⟨w.heap.size,3,none⟩ (yi G)).setCell ⟨w.heap.size,4,none⟩ (.bool gr)).setCell ⟨w.heap.size,5,none⟩ (yi sz)).setCell ⟨w.heap.size,6,none⟩ (yi ex)).setCell ⟨w.heap.size,7,none⟩ (yi fam)).setCell ⟨w.heap.size,8,none⟩ (.func (.func F) #[] #[])).setCell ⟨w.heap.size+1,0,none⟩ (.bool ng)).setCell ⟨w.heap.size+1,1,none⟩ (yi e)).setCell ⟨w.heap.size+1,2,none⟩ (.int .u64 f)) (w.heap.size+1) 112 (yfL ng e f):=((((((((((((m2.off (Ne.symm hn1) 0 (yi R)).off (Ne.symm hn1) 1 (yi D)).off (Ne.symm hn1) 2 (yi L)).off (Ne.symm hn1) 3 (yi G)).off (Ne.symm hn1) 4 (.bool gr)).off (Ne.symm hn1) 5 (yi sz)).off (Ne.symm hn1) 6 (yi ex)).off (Ne.symm hn1) 7 (yi fam)).off (Ne.symm hn1) 8 (.func (.func F) #[] #[])).set 0 (.bool ng)).set 1 (yi e)).set 2 (.int .u64 f));have bR:=(((ag _ (w.heap.size+1) 0 (.bool ng)).trans (ag _ (w.heap.size+1) 1 (yi e))).trans (ag _ (w.heap.size+1) 2 (.int .u64 f))).below ((((((((((ag w2 w.heap.size 0 (yi R)).trans (ag _ w.heap.size 1 (yi D))).trans (ag _ w.heap.size 2 (yi L))).trans (ag _ w.heap.size 3 (yi G))).trans (ag _ w.heap.size 4 (.bool gr))).trans (ag _ w.heap.size 5 (yi sz))).trans (ag _ w.heap.size 6 (yi ex))).trans (ag _ w.heap.size 7 (yi fam))).trans (ag _ w.heap.size 8 (.func (.func F) #[] #[]))).below b02 (Nat.le_refl _)) (Nat.le_succ _);have hl:=run_loadVar_mid (P:=Tryz.prog) _ w.heap.size 0 110 (ylL R D L G gr sz ex fam F) _ cL.range underlying110 rfl (by kernel_rfl);have hm:=run_loadVar_mid (P:=Tryz.prog) _ (w.heap.size+1) 0 112 (yfL ng e f) _ cM.range underlying112 rfl (by kernel_rfl);have HH:Hid (_∧_∧_):=⟨hl,hm,bR⟩;clear hl hm bR cL cM l2 m2 q2 b02 l1 m1 q1 q1d b01 l0 m0 b0 bq b1 b2
 go_wp2
 obtain⟨hl,hm,bR⟩:=HH.out;exact bodyPost_ret (kg results53 rfl rfl rfl hl hm) rfl ⟨rfl,bR⟩
theorem tdecOf_f (xg:Bool)(xn wh hv:Nat)(xo:Option Addr)(xc:Nat)(e bl bm be gs up p1 p2 p3:Int)(ds:ByteArray)(w:World)(rx:Rd w .u32 (yT xo xn xc) (Dg.dg 4294967296 xn))(h1:IntKind.i64.wrap (bl-1)=bm)(h2:IntKind.i64.wrap (bm+e)=be)(h3:IntKind.i64.wrap (60-gs)=up)(h4:IntKind.i64.wrap (gs+(ds.size:Int))=p1)(h5:IntKind.i64.wrap (p1-1)=p2)(h6:IntKind.i64.wrap (p2-60)=p3)
  (HB: ∀xo xc w1,Rd w1 .u32 (yT xo xn xc) (Dg.dg 4294967296 xn)→yC 89 #[yT xo xn xc] w1 (yR w1 (yi bl)))
  (HP:yJ 88 #[yi be] (yi gs))
  (HC: ∀xo xc w1,yB w w1→Rd w1 .u32 (yT xo xn xc) (Dg.dg 4294967296 xn)→yC 90 #[ydV xg (yT xo xn xc) e,yi up] w1 (NbR w1 wh false))
  (HD: ∀vo vc w1,Rd w1 .u32 (yT vo wh vc) (Dg.dg 4294967296 wh)→yC 35 #[yT vo wh vc] w1 (yR w1 (.string ds)))
  (HS: ∀vo vc w1,Rd w1 .u32 (yT vo wh vc) (Dg.dg 4294967296 wh)→yC 91 #[yT vo wh vc,yi 1] w1 (NmR w1 hv)):
  yC 48 #[ydV xg (yT xo xn xc) e] w (DcR w xg hv (ds.size:Int) p3):=by
 replace HB:Hid _:=HB;replace HP:Hid _:=HP;replace HC:Hid _:=HC;replace HD:Hid _:=HD;replace HS:Hid _:=HS;obtain⟨W4,hW5,q1,q2,b3⟩:=iG w (ydL xg (yT xo xn xc) e) 78 [.bool false,yN,yi 0,yi 0] 100;replace hW5:Hid _:=hW5;have r6:=rx.l b3;clear rx
 go_enter func48,ntmps48
 go_upto_region 1 with fail
 rw[hW5.out];clear hW5
 go_upto_region 1 with fail
 have bW7:yB W4 W4.drew:=(Below.refl _ _).drew;have q8:=q1.l bW7;have q9:=q2.l bW7;have r10:=r6.l bW7;have b11:=aa b3 bW7;clear q1 q2 r6 b3 bW7;refine wp_region_held_drew (S:=fun wq=>au wq w.heap.size 78 (ydL xg (yT xo xn xc) e)) (by kernel_rfl) q8 (fun hS0=> ?_)
 generalize W4.drew=WD12 at q8 q9 r10 b11 hS0⊢;refine tq 0 (.pointer (some ⟨w.heap.size,1,none⟩)) rfl (fun _ _=>by kernel_rfl) hS0 ?_
 refine tq 1 (yT xo xn xc) rfl (fun _ hw0=>gU 33 (.tmp 8) rfl w.heap.size 1 (by kernel_rfl) _ _ underlying33 rfl (hw0.c 1 rfl)) hS0 ?_
 refine tq 4 (.pointer (some ⟨w.heap.size,2,none⟩)) rfl (fun _ _=>by kernel_rfl) hS0 ?_
 refine tq 5 (yi e) rfl (fun _ hw0=>gU 3 (.tmp 12) rfl w.heap.size 2 (by kernel_rfl) _ _ underlying3 rfl (hw0.c 2 rfl)) hS0 ?_
 refine wpAnyH_ready (rs:=[2]) (by kernel_rfl) (by simp) ?_;refine AllReadyH.cons rfl (fun K hK=> ?_) AllReadyH.nil
 go_simp
 refine(HB.out _ _ _ r10).mono ?_;rintro zz w13 ⟨rfl,bb14⟩;have q15:=q8.l bb14;have q16:=q9.l bb14;have r17:=r10.l bb14;have b18:=aa b11 bb14;clear q8 q9 r10 b11 bb14 HB;refine hK.out _ _ q15 (fun hS19=> ?_)
 clear hK K;refine tq 3 (yi bm) rfl (fun _ _=>by go_simp) hS19 ?_
 refine tq 6 (yi be) rfl (fun _ _=>by go_simp) hS19 ?_
 refine wpAnyH_ready (rs:=[7]) (by kernel_rfl) (by simp) ?_;refine AllReadyH.cons rfl (fun K hK=> ?_) AllReadyH.nil
 go_simp
 refine(HP.out _).mono ?_;rintro zz w20 ⟨rfl,bb21⟩;have q22:=q15.l bb21;have q23:=q16.l bb21;have r24:=r17.l bb21;have b25:=aa b18 bb21;clear q15 q16 r17 b18 bb21 HP;refine hK.out _ _ q22 (fun hS26=> ?_)
 clear hK K;refine tq 8 (yi gs) rfl (fun _ _=>by kernel_rfl) hS26 ?_
 refine wpAnyH_done (by kernel_rfl) ?_ _;clear hS0 hS19 hS26;simp only[Act.put,List.getElem_toArray,List.getElem_cons_succ,List.getElem_cons_zero,List.setIfInBounds_toArray,List.set_cons_zero,List.set_cons_succ];obtain⟨c27,c28,c29⟩:=q22.cs3
 go_wp2_with fail
 refine(HC.out _ _ _ b25 r24).mono ?_;rintro zz w30 ⟨v1x32,rfl,r1x33,bb31⟩;have q34:=q22.l bb31;have q35:=q23.l bb31;have r36:=r24.l bb31;have b37:=aa b25 bb31;obtain⟨vo,vc,hv⟩:=r1x33.shape;subst hv;clear q22 q23 r24 b25 bb31 HC c27 c28 c29
 go_wp2_with fail
 refine(HD.out _ _ _ r1x33).mono ?_;rintro zz w38 ⟨rfl,bb39⟩;have q40:=q34.l bb39;have q41:=q35.l bb39;have r42:=r36.l bb39;have r43:=r1x33.l bb39;have b44:=aa b37 bb39;clear q34 q35 r36 r1x33 b37 bb39 HD
 go_wp2_with fail
 refine(HS.out _ _ _ r43).mono ?_;rintro zz w45 ⟨v1x47,rfl,r1x48,bb46⟩;have q49:=q40.l bb46;have q50:=q41.l bb46;have r51:=r42.l bb46;have r52:=r43.l bb46;have b53:=aa b44 bb46;obtain⟨ho,hc,hv⟩:=r1x48.shape;subst hv;clear q40 q41 r42 r43 b44 bb46 HS;have c54:=q49.c 0 rfl;have hf:=afz (P:=Tryz.prog) q50 b53 (by omega) underlying100 rfl (by kernel_rfl) (.bool xg) (yT ho hv hc) (yi (ds.size:Int)) (yi p3);have HH:Hid (_∧_∧_):=⟨hf.1,hf.2.2.rd r1x48 (aX r1x48 q50 (by simp)),hf.2.1⟩;obtain⟨⟨z0,z1,z2,z3⟩,y0,y1,y2,y3⟩:=afB q50;clear hf q49 q50 r51 r52 r1x48 b53
 go_wp2
 obtain⟨hl,rRh,bR⟩:=HH.out;exact bodyPost_ret (br results48 rfl hl) rfl ⟨_,rfl,rRh,bR⟩
theorem tdecOf_t (xg:Bool)(xn wh hv hw:Nat)(xo:Option Addr)(xc:Nat)(e bl bm be gs up p1 p2 p3:Int)(ds:ByteArray)(w:World)(rx:Rd w .u32 (yT xo xn xc) (Dg.dg 4294967296 xn))(h1:IntKind.i64.wrap (bl-1)=bm)(h2:IntKind.i64.wrap (bm+e)=be)(h3:IntKind.i64.wrap (60-gs)=up)(h4:IntKind.i64.wrap (gs+(ds.size:Int))=p1)(h5:IntKind.i64.wrap (p1-1)=p2)(h6:IntKind.i64.wrap (p2-60)=p3)
  (HB: ∀xo xc w1,Rd w1 .u32 (yT xo xn xc) (Dg.dg 4294967296 xn)→yC 89 #[yT xo xn xc] w1 (yR w1 (yi bl)))
  (HP:yJ 88 #[yi be] (yi gs))
  (HC: ∀xo xc w1,yB w w1→Rd w1 .u32 (yT xo xn xc) (Dg.dg 4294967296 xn)→yC 90 #[ydV xg (yT xo xn xc) e,yi up] w1 (NbR w1 wh true))
  (HD: ∀vo vc w1,Rd w1 .u32 (yT vo wh vc) (Dg.dg 4294967296 wh)→yC 35 #[yT vo wh vc] w1 (yR w1 (.string ds)))
  (HS: ∀vo vc w1,Rd w1 .u32 (yT vo wh vc) (Dg.dg 4294967296 wh)→yC 91 #[yT vo wh vc,yi 1] w1 (NmR w1 hv))
  (HA: ∀ho hc q w1,Rd w1 .u32 (yT ho hv hc) (Dg.dg 4294967296 hv)→au w1 q 54 [.int .u32 1]→yC 82 #[yT ho hv hc,.slice (some ⟨q,0,none⟩) 1 1] w1 (NmR w1 hw)):
  yC 48 #[ydV xg (yT xo xn xc) e] w (DcR w xg hw (ds.size:Int) p3):=by
 replace HB:Hid _:=HB;replace HP:Hid _:=HP;replace HC:Hid _:=HC;replace HD:Hid _:=HD;replace HS:Hid _:=HS;replace HA:Hid _:=HA;obtain⟨W4,hW5,q1,q2,b3⟩:=iG w (ydL xg (yT xo xn xc) e) 78 [.bool false,yN,yi 0,yi 0] 100;replace hW5:Hid _:=hW5;have r6:=rx.l b3;clear rx
 go_enter func48,ntmps48
 go_upto_region 1 with fail
 rw[hW5.out];clear hW5
 go_upto_region 1 with fail
 have bW7:yB W4 W4.drew:=(Below.refl _ _).drew;have q8:=q1.l bW7;have q9:=q2.l bW7;have r10:=r6.l bW7;have b11:=aa b3 bW7;clear q1 q2 r6 b3 bW7;refine wp_region_held_drew (S:=fun wq=>au wq w.heap.size 78 (ydL xg (yT xo xn xc) e)) (by kernel_rfl) q8 (fun hS0=> ?_)
 generalize W4.drew=WD12 at q8 q9 r10 b11 hS0⊢;refine tq 0 (.pointer (some ⟨w.heap.size,1,none⟩)) rfl (fun _ _=>by kernel_rfl) hS0 ?_
 refine tq 1 (yT xo xn xc) rfl (fun _ hw0=>gU 33 (.tmp 8) rfl w.heap.size 1 (by kernel_rfl) _ _ underlying33 rfl (hw0.c 1 rfl)) hS0 ?_
 refine tq 4 (.pointer (some ⟨w.heap.size,2,none⟩)) rfl (fun _ _=>by kernel_rfl) hS0 ?_
 refine tq 5 (yi e) rfl (fun _ hw0=>gU 3 (.tmp 12) rfl w.heap.size 2 (by kernel_rfl) _ _ underlying3 rfl (hw0.c 2 rfl)) hS0 ?_
 refine wpAnyH_ready (rs:=[2]) (by kernel_rfl) (by simp) ?_;refine AllReadyH.cons rfl (fun K hK=> ?_) AllReadyH.nil
 go_simp
 refine(HB.out _ _ _ r10).mono ?_;rintro zz w13 ⟨rfl,bb14⟩;have q15:=q8.l bb14;have q16:=q9.l bb14;have r17:=r10.l bb14;have b18:=aa b11 bb14;clear q8 q9 r10 b11 bb14 HB;refine hK.out _ _ q15 (fun hS19=> ?_)
 clear hK K;refine tq 3 (yi bm) rfl (fun _ _=>by go_simp) hS19 ?_
 refine tq 6 (yi be) rfl (fun _ _=>by go_simp) hS19 ?_
 refine wpAnyH_ready (rs:=[7]) (by kernel_rfl) (by simp) ?_;refine AllReadyH.cons rfl (fun K hK=> ?_) AllReadyH.nil
 go_simp
 refine(HP.out _).mono ?_;rintro zz w20 ⟨rfl,bb21⟩;have q22:=q15.l bb21;have q23:=q16.l bb21;have r24:=r17.l bb21;have b25:=aa b18 bb21;clear q15 q16 r17 b18 bb21 HP;refine hK.out _ _ q22 (fun hS26=> ?_)
 clear hK K;refine tq 8 (yi gs) rfl (fun _ _=>by kernel_rfl) hS26 ?_
 refine wpAnyH_done (by kernel_rfl) ?_ _;clear hS0 hS19 hS26;simp only[Act.put,List.getElem_toArray,List.getElem_cons_succ,List.getElem_cons_zero,List.setIfInBounds_toArray,List.set_cons_zero,List.set_cons_succ];obtain⟨c27,c28,c29⟩:=q22.cs3
 go_wp2_with fail
 refine(HC.out _ _ _ b25 r24).mono ?_;rintro zz w30 ⟨v1x32,rfl,r1x33,bb31⟩;have q34:=q22.l bb31;have q35:=q23.l bb31;have r36:=r24.l bb31;have b37:=aa b25 bb31;obtain⟨vo,vc,hv⟩:=r1x33.shape;subst hv;clear q22 q23 r24 b25 bb31 HC c27 c28 c29
 go_wp2_with fail
 refine(HD.out _ _ _ r1x33).mono ?_;rintro zz w38 ⟨rfl,bb39⟩;have q40:=q34.l bb39;have q41:=q35.l bb39;have r42:=r36.l bb39;have r43:=r1x33.l bb39;have b44:=aa b37 bb39;clear q34 q35 r36 r1x33 b37 bb39 HD
 go_wp2_with fail
 refine(HS.out _ _ _ r43).mono ?_;rintro zz w45 ⟨v1x47,rfl,r1x48,bb46⟩;have q49:=q40.l bb46;have q50:=q41.l bb46;have r51:=r42.l bb46;have r52:=r43.l bb46;have b53:=aa b44 bb46;obtain⟨ho,hc,hv⟩:=r1x48.shape;subst hv;clear q40 q41 r42 r43 b44 bb46 HS;have hl56:=q49.lt;have hl57:=q50.lt;have al54:=af w45 (.cells #[.int .u32 1] 54);have q55:=ah w45 [.int .u32 1] 54;have q58:=q49.l al54;have q59:=q50.l al54;have r60:=r51.l al54;have r61:=r52.l al54;have r62:=r1x48.l al54;have b63:=aa b53 al54
 go_wp2_with fail
 refine(HA.out _ _ _ _ r62 q55).mono ?_;rintro zz w64 ⟨v1x66,rfl,r1x67,bb65⟩;have q68:=q58.l bb65;have q69:=q59.l bb65;have r70:=r60.l bb65;have r71:=r61.l bb65;have r72:=r62.l bb65;have b73:=aa b63 bb65;obtain⟨ko,kc,hv⟩:=r1x67.shape;subst hv;clear q58 q59 q55 r60 r61 r62 b63 bb65 HA q49 q50 r51 r52 r1x48 b53 al54;have c74:=q68.c 0 rfl;have hf:=afz (P:=Tryz.prog) q69 b73 (by omega) underlying100 rfl (by kernel_rfl) (.bool xg) (yT ko hw kc) (yi (ds.size:Int)) (yi p3);have HH:Hid (_∧_∧_):=⟨hf.1,hf.2.2.rd r1x67 (aX r1x67 q69 (by simp)),hf.2.1⟩;obtain⟨⟨z0,z1,z2,z3⟩,y0,y1,y2,y3⟩:=afB q69;clear hf q68 q69 r70 r71 r72 r1x67 b73
 go_wp2
 obtain⟨hl,rRk,bR⟩:=HH.out;exact bodyPost_ret (br results48 rfl hl) rfl ⟨_,rfl,rRk,bR⟩
theorem hardest_W (R D L G:Int)(gr:Bool)(f U:Nat)(nb:Nat→Int→ak)(w:World)(hR:R=((2^f:Nat):Int))(hf:1≤f∧f≤4)(hL: -100000≤L∧L≤100000)(hG: -100000≤G∧G≤100000)(hD:1≤D∧D≤1000)
  (HN: ∀ao la ac d p w1,yB w w1→Rd w1 .u32 (.slice ao la ac) (Dg.dg 4294967296 d)→yC 80 #[ygV R D L G gr,.slice ao la ac,yi p] w1 (acy w1 (nb d p)))
  (HP: ∀q w1,au w1 q 54 [.int .u32 R]→yC 81 #[.slice (some ⟨q,0,none⟩) 1 1,yi (D-1)] w1 (Num w1 U))
  (HT: ∀v q (i:Nat) w1,i<f→Rd w1 .u32 v (Dg.dg 4294967296 U)→au w1 q 54 [.int .u32 ((2^i:Nat):Int)]→yC 57 #[v,.slice (some ⟨q,0,none⟩) 1 1] w1 (Num w1 (U*2^i)))
  (HS: ∀v u m w1,m≤U*16→Rd w1 .u32 v (Dg.dg 4294967296 m)→Rd w1 .u32 u [1]→yC 82 #[v,u] w1 (Num w1 (m+1))):
  yC 43 #[ygV R D L G gr] w (HdRes w (hdF nb L G U (if gr=true then[nb 1 L] else[]) f)):=by
 replace HN:Hid _:=HN;replace HP:Hid _:=HP;replace HT:Hid _:=HT;replace HS:Hid _:=HS;have hRb:2≤R∧R≤16:=by
  obtain⟨f1,f2⟩:=hf;obtain rfl|rfl|rfl|rfl:f=1∨f=2∨f=3∨f=4:=by omega
  all_goals rw[hR];decide
 replace hR:Hid _:=hR;have hfirst: ∃ts0,(if gr=true then[nb 1 L] else[])=ts0∧ts0.length≤1:=⟨_,rfl,by split<;>simp⟩
 obtain⟨ts0,ets,hts⟩:=hfirst;rw[ets];replace ets:Hid _:=ets;obtain⟨W,hW,q0,b0⟩:=cA w (ygL R D L G gr) 82;replace hW:Hid _:=hW
 go_enter func43,ntmps43
 go_upto_region 1 with fail
 rw[hW.out];clear hW;have hws:w.heap.size+1≤W.heap.size:=q0.lt
 cases hgr:gr
 case' true=>
  replace hgr:Hid _:=hgr;obtain⟨c0,c1,c2,c3,c4⟩:=q0.cs5;rw[hgr.out] at c4;have al:=af W (.cells #[.int .u32 1] 54);have n1:=ah W [.int .u32 1] 54;have c5:=(q0.l al).c 2 rfl
  go_wp2_with fail
  have HNg:=HN.out;rw[hgr.out] at HNg;refine(HNg _ _ _ 1 _ _ (aa b0 al) (by rw[dg32_one];exact(row_one (g:=none) (r:=1) n1 (fun _ h=>nomatch h)).1)).mono ?_
  rintro zz w1 ⟨v,rfl,rv,fv,b1⟩;obtain⟨xo,xc,hv⟩:=rv.shape;subst hv;have al2:=af w1 (.cells #[.bool (nb 1 L).s,.slice xo (Dg.dg 4294967296 (nb 1 L).n).length xc,yi (nb 1 L).e] 78);have nl:=ah w1 [.bool (nb 1 L).s,.slice xo (Dg.dg 4294967296 (nb 1 L).n).length xc,yi (nb 1 L).e] 78;have bb:=aa (aa al b1) al2;have q1:=q0.l bb;have b2:=aa b0 bb;have r2:=rv.l al2;obtain⟨v',w4,hrun,hI,hgrow,hat⟩:=hd_app (us:=[nb 1 L]) (m:=1) (hd_nil (w.heap.size+1) _) nl ⟨xo,xc,[],rfl,⟨r2,fun b hb=>nomatch hb⟩,rfl⟩ rfl (fun u hu=>by simp at hu;rcases hu with rfl|rfl|rfl<;>rfl) (by simp) q1.lt
  have q4:=q1.grownO hgrow (fun g hg=>nomatch hg)
  have b4:=b2.grown hgrow b2.size (fun g hg=>nomatch hg)
  clear HNg c0 c1 c2 c3 c4 c5 al n1 rv fv b1 al2 nl bb q1 b2 r2 hgrow hat hws q0 b0
  go_upto_region 4 with(at_builtin;refine Bi rfl _ _ 92 rfl _ _ v' w4 rfl rfl hrun.out ?_)
  clear hrun;replace hI:HdI (w.heap.size+1) ts0 v' w4:=by rw[←ets.out,if_pos hgr.out];exact hI
 case' false=>
  replace hgr:Hid _:=hgr;have hI:HdI (w.heap.size+1) ts0 yN W:=by rw[←ets.out,if_neg (by rw[hgr.out];decide)];exact hd_nil _ _
  obtain⟨c0,c1,c2,c3,c4⟩:=q0.cs5;rw[hgr.out] at c4
  go_upto_region 4 with fail
  clear c0 c1 c2 c3 c4 hws;obtain⟨w4,hw4⟩: ∃w4,w4=W:=⟨_,rfl⟩;subst hw4;have q4:=q0;have b4:=b0;clear q0 b0
 all_goals
  clear ets hgr;obtain⟨d0,d1,d2,d3,d4⟩:=q4.cs5;have a1:=af w4 (.cells #[.int .u32 1] 54);have n1:=ah w4 [.int .u32 1] 54;have a2:=af (w4.alloc (.cells #[.int .u32 1] 54)) (.cells #[.int .u32 R] 54);have n2:=ah (w4.alloc (.cells #[.int .u32 1] 54)) [.int .u32 R] 54;rw[World.size_alloc] at n2;have d5:=(q4.l a1).c 0 rfl;have d6:=((q4.l a1).l a2).c 1 rfl
  go_wp2_with fail
  refine(HP.out _ _ n2).mono ?_;rintro zz w5 ⟨up,rfl,ou,b5⟩;have bb:=aa a1 a2;have hK:=hdW_mk (aa b4 (aa bb b5)) (q4.l (aa bb b5)) (hI.l (aa bb b5)) (row_one (r:=1) ((n1.l a2).l b5) (fun b hb=>by have:=hI.lt b hb;omega)) (row_own ou (fun b hb=>by
   have h1:=hI.lt b hb;have h2:w4.heap.size≤_:=bb.size;omega))
  clear d0 d1 d2 d3 d4 d5 d6 a1 n1 a2 n2 ou b5 bb hI q4 b4 HP;generalize Value.slice (some ⟨w4.heap.size,0,none⟩) 1 1=one at hK⊢
  go_wp2
  go_loopw [3,6] (fun lv fv wr=> ∃i:Nat,i≤f∧fv=yi ((2^i:Nat):Int)∧HdW w lv one up U (ygL R D L G gr) (hdF nb L G U ts0 i) wr∧(hdF nb L G U ts0 i).length≤1+8*i) (fun _ fv _=>100-(intOf fv).toNat)
  case atStart=>exact⟨0,by omega,rfl,hK,hts⟩
  case round=>
   obtain⟨i,hif,rfl,hW,hlen⟩:=hrel;obtain⟨F,hF⟩: ∃F:Nat,2^i=F:=⟨_,rfl⟩;rw[hF];have hF1:1≤F:=by rw[←hF];exact Nat.pow_pos (by omega)
   have hF2:F≤16:=by
    rw[←hF];exact Nat.le_trans (Nat.pow_le_pow_right (by omega) (Nat.le_trans hif hf.2)) (by decide)
   obtain⟨d0,d1,d2,d3,d4⟩:=hW.2.1.cs5
   by_cases hlt:i<f
   ·have hFR:(F:Int)<R:=by
     rw[hR.out,←hF];exact Int.ofNat_lt.2 (Nat.pow_lt_pow_right (by omega) hlt)
    have HF:Hid (2^i=F):=hF;clear hF;have a1:=af wr (.cells #[.int .u32 (F:Int)] 54);have n1:=ah wr [.int .u32 (F:Int)] 54
    go_wp2_with fail
    refine(HT.out up _ i _ hlt (hW.l a1).2.2.2.2.1 (by rw[HF.out];exact n1)).mono ?_;rintro zz w6 ⟨vt,rfl,ot,b6⟩;have hW6:=(hW.l a1).l b6;clear d0 d1 d2 d3 d4 a1 n1 hW
    go_wp2_with fail
    refine(HS.out vt one (U*2^i) _ ?_ ot.rd hW6.2.2.2.1.1).mono ?_
    ·rw[HF.out]
     exact Nat.mul_le_mul_left _ hF2
    rintro zz w7 ⟨vd,rfl,od,b7⟩;have hW7:=hW6.l b7;have rd7:RowAt w7 u3.ownBlock vd (Dg.dg 4294967296 (U*2^i+1)):=row_own od (fun b hb=>by have:=hW6.lt b hb;omega)
    obtain⟨d,hd⟩: ∃d,U*2^i+1=d:=⟨_,rfl⟩;rw[hd] at rd7;obtain⟨dO,dC,hv⟩:=rd7.1.shape;subst hv;have HD:Hid (U*2^i+1=d):=hd;clear ot b6 hW6 od b7 hd;obtain⟨ts1,hts1⟩: ∃ts1,hdF nb L G U ts0 i=ts1:=⟨_,rfl⟩;rw[hts1] at hW7 hlen;have HTS:Hid (hdF nb L G U ts0 i=ts1):=hts1;clear hts1
    go_wp2
    go_loopw [3,41] (fun lv iv wr=> ∃j:Nat,j≤4∧iv=yi (j:Int)∧HdW w lv one up U (ygL R D L G gr) (ts1++hdD nb L G d j) wr∧RowAt wr lv.ownBlock (yT dO d dC) (Dg.dg 4294967296 d)∧(hdD nb L G d j).length≤2*j) (fun _ iv _=>4-(intOf iv).toNat)
    case atStart=>exact⟨0,by omega,rfl,by rw[show hdD nb L G d 0=[] from rfl,List.append_nil];exact hW7,rd7,Nat.le_refl _⟩
    case round=>
     clear hW7 rd7;obtain⟨j,hj,rfl,hW,rD,hlj⟩:=hrel
     by_cases hlt2:j<4
     ·go_upto_region 12 with fail
      have bW:yB wr wr.drew:=(Below.refl _ _).drew;have hW1:=hW.l bW;have rD1:=rD.l bW;clear hW rD bW;have q1:=hW1.2.1;refine wp_region_held_drew (S:=fun wq=>au wq w.heap.size 82 (ygL R D L G gr)) (by kernel_rfl) q1 (fun hS0=> ?_)
      generalize wr.drew=WD at hW1 rD1 q1 hS0⊢;clear q1;have e1:IntKind.i64.wrap (L+(j:Int))=L+(j:Int):=IntWalk.i64_in _ ⟨by omega,by omega⟩;have e2:IntKind.i64.wrap (G-(j:Int))=G-(j:Int):=IntWalk.i64_in _ ⟨by omega,by omega⟩;refine tq 0 (u3) rfl (fun _ _=>by kernel_rfl) hS0 ?_
      refine tq 1 (ygV R D L G gr) rfl (fun _ hw0=>fy 82 (.tmp 1) rfl w.heap.size 0 (by kernel_rfl) _ _ hw0.range underlying82 rfl (by kernel_rfl)) hS0 ?_
      refine tq 2 (yT dO d dC) rfl (fun _ _=>by kernel_rfl) hS0 ?_
      refine tq 3 (.pointer (some ⟨w.heap.size,2,none⟩)) rfl (fun _ _=>by kernel_rfl) hS0 ?_
      refine tq 4 (yi L) rfl (fun _ hw0=>gU 3 (.tmp 47) rfl w.heap.size 2 (by kernel_rfl) _ _ underlying3 rfl (hw0.c 2 rfl)) hS0 ?_
      refine tq 5 (yi (j:Int)) rfl (fun _ _=>by kernel_rfl) hS0 ?_
      refine tq 6 (yi (L+(j:Int))) rfl (fun _ _=>by go_simp) hS0 ?_
      refine tq 8 (ygV R D L G gr) rfl (fun _ hw0=>fy 82 (.tmp 1) rfl w.heap.size 0 (by kernel_rfl) _ _ hw0.range underlying82 rfl (by kernel_rfl)) hS0 ?_
      refine tq 9 (yT dO d dC) rfl (fun _ _=>by kernel_rfl) hS0 ?_
      refine tq 10 (.pointer (some ⟨w.heap.size,3,none⟩)) rfl (fun _ _=>by kernel_rfl) hS0 ?_
      refine tq 11 (yi G) rfl (fun _ hw0=>gU 3 (.tmp 54) rfl w.heap.size 3 (by kernel_rfl) _ _ underlying3 rfl (hw0.c 3 rfl)) hS0 ?_
      refine tq 12 (yi (j:Int)) rfl (fun _ _=>by kernel_rfl) hS0 ?_
      refine tq 13 (yi (G-(j:Int))) rfl (fun _ _=>by go_simp) hS0 ?_
      refine wpAnyH_ready (rs:=[7]) (by kernel_rfl) (by simp) ?_;refine AllReadyH.cons rfl (fun K hK=> ?_) AllReadyH.nil
      go_simp
      refine(HN.out _ _ _ d _ _ hW1.1 rD1.1).mono ?_;rintro zz w2 ⟨va,rfl,ra,fa,b2⟩;obtain⟨ao,ac,hv⟩:=ra.shape;subst hv;have ra1:RowAt w2 u3.ownBlock _ _:=RowAt.new ra fa (fun b hb=>(hW1.lt b hb).2)
      have hW2:=hW1.l b2;have rD2:=rD1.l b2;refine hK.out _ _ hW2.2.1 (fun hS7=> ?_)
      clear hK K ra fa b2 hW1 rD1 hS0;refine wpAnyH_ready (rs:=[14]) (by kernel_rfl) (by simp) ?_;refine AllReadyH.cons rfl (fun K hK=> ?_) AllReadyH.nil
      go_simp
      refine(HN.out _ _ _ d _ _ hW2.1 rD2.1).mono ?_;rintro zz w3 ⟨vb,rfl,rb,fb,b3⟩;obtain⟨bo,bc,hv⟩:=rb.shape;subst hv;have rb1:RowAt w3 u3.ownBlock _ _:=RowAt.new rb fb (fun b hb=>(hW2.lt b hb).2)
      have hW3:=hW2.l b3;have rD3:=rD2.l b3;have ra3:=ra1.l b3;refine hK.out _ _ hW3.2.1 (fun hS14=> ?_)
      clear hK K rb fb b3 hW2 rD2 ra1 hS7;refine wpAnyH_ready (rs:=[15]) (by kernel_rfl) (by simp) ?_;refine AllReadyH.cons rfl (fun K hK=> ?_) AllReadyH.nil
      go_simp
      have al:=af w3 (.cells #[.bool (nb d (L+(j:Int))).s,.slice ao (Dg.dg 4294967296 (nb d (L+(j:Int))).n).length ac,yi (nb d (L+(j:Int))).e,.bool (nb d (G-(j:Int))).s,.slice bo (Dg.dg 4294967296 (nb d (G-(j:Int))).n).length bc,yi (nb d (G-(j:Int))).e] 78);have nl:=ah w3 [.bool (nb d (L+(j:Int))).s,.slice ao (Dg.dg 4294967296 (nb d (L+(j:Int))).n).length ac,yi (nb d (L+(j:Int))).e,.bool (nb d (G-(j:Int))).s,.slice bo (Dg.dg 4294967296 (nb d (G-(j:Int))).n).length bc,yi (nb d (G-(j:Int))).e] 78;have hW4:=hW3.l al;have rD4:=rD3.l al;have ra4:=ra3.l al;have rb4:=rb1.l al;refine hK.out _ _ hW4.2.1 (fun hS15=> ?_)
      clear hK K al hW3 rD3 ra3 rb1 hS14;obtain⟨v2,w5,hrun,hI,hgrow,hat⟩:=hd_app (us:=hdB nb L G d j) (m:=2) hW4.2.2.1 nl ⟨ao,ac,_,rfl,ra4,bo,bc,[],rfl,rb4,rfl⟩ rfl (fun u hu=>by simp at hu;rcases hu with rfl|rfl|rfl|rfl|rfl|rfl<;>rfl) (by rw[List.length_append];omega) hW4.2.1.lt
      have hW5:=hW4.grow hgrow hat hI;have rD5:=rD4.grow hgrow hat;refine wpAnyH_ready (rs:=[16]) (by kernel_rfl) (by simp) ?_;refine AllReadyH.cons rfl (fun K hK=> ?_) AllReadyH.nil
      refine mg rfl (.tmp 44) (.tmp 59) 92 rfl _ _ v2 w5 rfl rfl hrun.out ?_;refine hK.out _ _ hW5.2.1 (fun hS16=> ?_)
      clear hK K hrun hI hgrow hat nl hW4 rD4 ra4 rb4 hS15;refine tq 17 (v2) rfl (fun _ _=>by go_simp) hS16 ?_
      simp only[Act.put,List.getElem_toArray,List.getElem_cons_succ,List.getElem_cons_zero,List.setIfInBounds_toArray,List.set_cons_zero,List.set_cons_succ];refine wpAnyH_done (by kernel_rfl) ?_ _;clear hS16 e1 e2
      go_wp2
      go_roundw
      case rel=>exact⟨j+1,by omega,by go_num,by rw[show hdD nb L G d (j+1)=hdD nb L G d j++hdB nb L G d j from rfl,←List.append_assoc];exact hW5,rD5,by rw[show hdD nb L G d (j+1)=hdD nb L G d j++hdB nb L G d j from rfl,List.length_append];show _+2≤_;omega⟩
      case measure=>simp[intOf];omega
     ·obtain rfl:j=4:=by omega
      clear rD
      go_wp2
      go_roundw
      case rel=>exact⟨i+1,by omega,by rw[Nat.pow_succ,HF.out];go_num,by rw[show hdF nb L G U ts0 (i+1)=hdF nb L G U ts0 i++hdD nb L G (U*2^i+1) 4 from rfl,HD.out,HTS.out];exact hW,by rw[show hdF nb L G U ts0 (i+1)=hdF nb L G U ts0 i++hdD nb L G (U*2^i+1) 4 from rfl,HD.out,HTS.out,List.length_append];omega⟩
      case measure=>simp[intOf];omega
   ·obtain rfl:i=f:=by omega
    have hFR: ¬(F:Int)<R:=by
     rw[hR.out,←hF];omega
    clear hF
    go_wp2
    go_ret
    exact⟨_,rfl,hW.2.2.1.wider (by omega),hW.1⟩
theorem lwhole_W (n qh qn rn:Int)(H Q:Nat)(u v t:ak)(w:World)(h1:IntKind.i64.wrap (n.tdiv 2)=qh)(h2:IntKind.i64.wrap (-qh)=qn)(h3:max qh qn=(H:Int))(h4:IntKind.i64.wrap (-(n.tmod 2))=rn)(h5:max (n.tmod 2) rn=(Q:Int))
  (HFa: ∀w1,yB w w1→yC 28 #[yi H] w1 (cG w1 H))
  (HFb: ∀w1,yB w w1→yC 28 #[yi Q] w1 (cG w1 Q))
  (HBa: ∀ho hc w1,yB w w1→Rd w1 .i64 (yS ho H hc) (Dg.dg 65536 H)→yC 30 #[ydV (decide (n<0)) (yS ho H hc) 1] w1 (dr w1 u))
  (HBb: ∀ro rc w1,yB w w1→Rd w1 .i64 (yS ro Q rc) (Dg.dg 65536 Q)→yC 30 #[ydV (decide (n<0)) (yS ro Q rc) 0] w1 (dr w1 v))
  (HP: ∀uo uc vo vc w1,yB w w1→Rd w1 .i64 (yS uo u.n uc) (Dg.dg 65536 u.n)→Rd w1 .i64 (yS vo v.n vc) (Dg.dg 65536 v.n)→yC 29 #[ydV u.s (yS uo u.n uc) u.e,ydV v.s (yS vo v.n vc) v.e] w1 (dr w1 t)):
  yC 11 #[yi n] w (dr w t):=by
 replace HFa:Hid _:=HFa;replace HFb:Hid _:=HFb;replace HBa:Hid _:=HBa;replace HBb:Hid _:=HBb;replace HP:Hid _:=HP;obtain⟨W3,hW4,q1,b2⟩:=cA w (ydL false yN 0) 30;replace hW4:Hid _:=hW4
 go_enter func11,ntmps11
 go_upto_region 1 with fail
 rw[hW4.out];clear hW4
 go_wp2_with fail
 refine(HFa.out _ b2).mono ?_;rintro zz w5 ⟨v1x7,rfl,r1x8,bb6⟩;have q9:=q1.l bb6;have b10:=aa b2 bb6;obtain⟨ho,hc,hv⟩:=r1x8.shape;subst hv;clear q1 b2 bb6 HFa;obtain⟨W13,hW12,q14,al11⟩:=cA w5 (ydL (decide (n<0)) (yS ho H hc) 1) 30;replace hW12:Hid _:=hW12;have hl15:w.heap.size≤w5.heap.size:=b10.size;have hl16:=q9.lt;have q17:=q9.l al11;have r18:=r1x8.l al11;have b19:=aa b10 al11;clear q9 r1x8 b10 al11
 go_upto_region 2 with fail
 rw[hW12.out];clear hW12
 go_wp2_with fail
 refine(HFb.out _ b19).mono ?_;rintro zz w20 ⟨v1x22,rfl,r1x23,bb21⟩;have q24:=q17.l bb21;have q25:=q14.l bb21;have r26:=r18.l bb21;have b27:=aa b19 bb21;obtain⟨ro,rc,hv⟩:=r1x23.shape;subst hv;clear q17 q14 r18 b19 bb21 HFb;obtain⟨W30,hW29,q31,al28⟩:=cA w20 (ydL (decide (n<0)) (yS ro Q rc) 0) 30;replace hW29:Hid _:=hW29;have hl32:w.heap.size≤w20.heap.size:=b27.size;have hl33:=q24.lt;have hl34:=q25.lt;have q35:=q24.l al28;have q36:=q25.l al28;have r37:=r26.l al28;have r38:=r1x23.l al28;have b39:=aa b27 al28;clear q24 q25 r26 r1x23 b27 al28
 go_upto_region 3 with fail
 rw[hW29.out];clear hW29
 go_upto_region 3 with fail
 have bW40:yB W30 W30.drew:=(Below.refl _ _).drew;have q41:=q35.l bW40;have q42:=q36.l bW40;have q43:=q31.l bW40;have r44:=r37.l bW40;have r45:=r38.l bW40;have b46:=aa b39 bW40;clear q35 q36 q31 r37 r38 b39 bW40;refine wp_region_held_drew (S:=fun wq=>au wq w5.heap.size 30 (ydL (decide (n<0)) (yS ho H hc) 1)∧au wq w20.heap.size 30 (ydL (decide (n<0)) (yS ro Q rc) 0)) (by kernel_rfl) ⟨q42,q43⟩ (fun hS0=> ?_)
 generalize W30.drew=WD47 at q41 q42 q43 r44 r45 b46 hS0⊢;refine tq 0 (ydV (decide (n<0)) (yS ho H hc) 1) rfl (fun _ hw0=>fy 30 (.tmp 3) rfl w5.heap.size 0 (by kernel_rfl) _ _ hw0.1.range underlying30 rfl (by kernel_rfl)) hS0 ?_
 refine tq 2 (ydV (decide (n<0)) (yS ro Q rc) 0) rfl (fun _ hw0=>fy 30 (.tmp 4) rfl w20.heap.size 0 (by kernel_rfl) _ _ hw0.2.range underlying30 rfl (by kernel_rfl)) hS0 ?_
 refine wpAnyH_ready (rs:=[1]) (by kernel_rfl) (by simp) ?_;refine AllReadyH.cons rfl (fun K hK=> ?_) AllReadyH.nil
 go_simp
 refine(HBa.out _ _ _ b46 r44).mono ?_;rintro zz w48 ⟨v1x50,rfl,r1x51,bb49⟩;have q52:=q41.l bb49;have q53:=q42.l bb49;have q54:=q43.l bb49;have r55:=r44.l bb49;have r56:=r45.l bb49;have b57:=aa b46 bb49;obtain⟨uo,uc,hv⟩:=r1x51.shape;subst hv;clear q41 q42 q43 r44 r45 b46 bb49 HBa;refine hK.out _ _ ⟨q53,q54⟩ (fun hS58=> ?_)
 clear hK K;refine wpAnyH_ready (rs:=[3]) (by kernel_rfl) (by simp) ?_;refine AllReadyH.cons rfl (fun K hK=> ?_) AllReadyH.nil
 go_simp
 refine(HBb.out _ _ _ b57 r56).mono ?_;rintro zz w59 ⟨v1x61,rfl,r1x62,bb60⟩;have q63:=q52.l bb60;have q64:=q53.l bb60;have q65:=q54.l bb60;have r66:=r55.l bb60;have r67:=r56.l bb60;have r68:=r1x51.l bb60;have b69:=aa b57 bb60;obtain⟨vo,vc,hv⟩:=r1x62.shape;subst hv;clear q52 q53 q54 r55 r56 r1x51 b57 bb60 HBb;refine hK.out _ _ ⟨q64,q65⟩ (fun hS70=> ?_)
 clear hK K;refine wpAnyH_ready (rs:=[4]) (by kernel_rfl) (by simp) ?_;refine AllReadyH.cons rfl (fun K hK=> ?_) AllReadyH.nil
 go_simp
 refine(HP.out _ _ _ _ _ b69 r68 r1x62).mono ?_;rintro zz w71 ⟨v1x73,rfl,r1x74,bb72⟩;have q75:=q63.l bb72;have q76:=q64.l bb72;have q77:=q65.l bb72;have r78:=r66.l bb72;have r79:=r67.l bb72;have r80:=r68.l bb72;have r81:=r1x62.l bb72;have b82:=aa b69 bb72;obtain⟨mo,mc,hv⟩:=r1x74.shape;subst hv;clear q63 q64 q65 r66 r67 r68 r1x62 b69 bb72 HP;refine hK.out _ _ ⟨q76,q77⟩ (fun hS83=> ?_)
 clear hK K;refine wpAnyH_ready (rs:=[5]) (by kernel_rfl) (by simp) ?_;refine AllReadyH.cons rfl (fun K hK=> ?_) AllReadyH.nil
 have bu:But w.heap.size w71 (w71.setCells w.heap.size 0 (ydL t.s (yS mo t.n mc) t.e)):=de _ _ _ _;have hth:w71.there w.heap.size 0 3:=dD q75;have q84:au (w71.setCells w.heap.size 0 (ydL t.s (yS mo t.n mc) t.e)) w.heap.size 30 (ydL t.s (yS mo t.n mc) t.e):=q75.sets _ rfl;have r85:=bu.rd r78 (cq r78 (Dg.norm_dg _ _ (by omega)) q75 (fun x hx n hn=>by simp at hx;rcases hx with rfl|rfl|rfl<;>simp;all_goals omega))
 have r86:=bu.rd r79 (cq r79 (Dg.norm_dg _ _ (by omega)) q75 (fun x hx n hn=>by simp at hx;rcases hx with rfl|rfl|rfl<;>simp;all_goals omega))
 have r87:=bu.rd r80 (cq r80 (Dg.norm_dg _ _ (by omega)) q75 (fun x hx n hn=>by simp at hx;rcases hx with rfl|rfl|rfl<;>simp;all_goals omega))
 have r88:=bu.rd r81 (cq r81 (Dg.norm_dg _ _ (by omega)) q75 (fun x hx n hn=>by simp at hx;rcases hx with rfl|rfl|rfl<;>simp;all_goals omega))
 have r89:=bu.rd r1x74 (cq r1x74 (Dg.norm_dg _ _ (by omega)) q75 (fun x hx n hn=>by simp at hx;rcases hx with rfl|rfl|rfl<;>simp;all_goals omega))
 have q90:=bu.loc q76 (by omega);have q91:=bu.loc q77 (by omega);have b92:=bu.below b82 (by omega);rw[if_pos (by kernel_rfl)];refine wp_store_mid 30 (.tmp 2) (.tmp 29) rfl w.heap.size 0 (ydA t.s (yS mo t.n mc) t.e) (by kernel_rfl) (by kernel_rfl) hth (by kernel_rfl) (by simp[Value.oneCell']) ?_;refine hK.out _ _ ⟨q90,q91⟩ (fun hS93=> ?_)
 clear hK K;clear q75 r78 r79 r80 r81 r1x74 q76 q77 b82 bu hth;refine wpAnyH_done (by kernel_rfl) ?_ _;clear hS0 hS58 hS70 hS83 hS93;change Exit.then _ _ _ _ (World.setCells w71 w.heap.size 0 (ydL t.s (yS mo t.n mc) t.e));generalize World.setCells w71 w.heap.size 0 (ydL t.s (yS mo t.n mc) t.e)=W94 at q84 q90 q91 r85 r86 r87 r88 r89 b92⊢;simp only[Act.put,List.getElem_toArray,List.getElem_cons_succ,List.getElem_cons_zero];have hl:=run_loadVar_mid (P:=Tryz.prog) _ (w.heap.size) 0 30 (ydL t.s (yS mo t.n mc) t.e) _ q84.range underlying30 rfl (by kernel_rfl)
 go_wp2
 exact bodyPost_ret (br results11 rfl hl) rfl ⟨_,rfl,r89,b92⟩
end Go.Proofs.YtlgkfdcmokchgaaGreatDoor

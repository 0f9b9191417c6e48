/-
  Texts laid together: Ce6, Cr2, Gh1.
-/
import Derived.Test.YtdhpndnncmagiaaGreatDoorMa07
import Derived.Test.YtdhpndnncmagiaaGreatDoorMa08
import Derived.Test.YtdhpndnncmagiaaGreatDoorMa10
set_option maxRecDepth 100000
set_option maxHeartbeats 12800000
namespace Go.Proofs.YtdhpndnncmagiaaGreatDoor
open _root_.Go.Proofs.Tryz
open Go.RowKit
theorem fieldsOf_set_mg:
  (∀(D L G fam:Int) (gr:Bool) (sz ex:Nat) (F:Nat) (s x1 x2 x3:Bool) (ao:Option Addr) (dn dc:Nat) (pw:Int) (e f:Nat) (w:World) (_:IntKind.i64.wrap (pw-L)=(e:Int)) (_:e<65536)
  (_: ∀w1,yB w w1→yC 264 #[.slice ao dn dc] w1 fun z w'=>z= .returned (.int .u64 f)∧w1=w')
  (ld:Nat) (ab:Int) (_:bits .and .u64 f ld=ab) (_:ab≠0)
  (_:yJ 205 #[ylV 2 D L G gr sz ex fam F] (.int .u64 ld)),
  yC 212 #[ylV 2 D L G gr sz ex fam F,ypV s (.slice ao dn dc) pw x1 x2 x3] w (yR w (yfV s ((e:Int)+1) f)))∧
  (∀(D L G fam:Int) (gr:Bool) (sz ex:Nat) (F:Nat) (s x1 x2 x3:Bool) (ao:Option Addr) (dn dc:Nat) (pw:Int) (e f:Nat) (w:World) (_:IntKind.i64.wrap (pw-L)=(e:Int)) (_:e<65536)
  (_: ∀w1,yB w w1→yC 264 #[.slice ao dn dc] w1 fun z w'=>z= .returned (.int .u64 f)∧w1=w')
  (ld:Nat) (ab:Int) (_:bits .and .u64 f ld=ab) (_:ab=0)
  (_:yJ 205 #[ylV 2 D L G gr sz ex fam F] (.int .u64 ld)),
  yC 212 #[ylV 2 D L G gr sz ex fam F,ypV s (.slice ao dn dc) pw x1 x2 x3] w (yR w (yfV s e f))):=by
 refine⟨?_, ?_⟩;have _z:Mgk 0:=mgkI 0
 all_goals
  first| (rename Mgk 0=>_z;intro D L G fam gr sz ex F s x1 x2 x3 ao dn dc pw e f w hE he HWd ld ab hab habz HL)| (intro D L G fam gr sz ex F s x1 x2 x3 ao dn dc pw e f w hE _he HWd ld ab hab habz HL)
  have hsf:=cD;have HWd':Hid _:=HWd;clear HWd;have HL':Hid _:=HL;clear HL
  first| (rename Mgk 0=>_z;(have hz1:(ab==0)=false:=by simpa using habz);(have hz2:(ab != 0)=true:=by simpa using habz);clear habz)| (subst habz)
  have bp:=af (w.alloc (.cells (ylA 2 D L G gr sz ex fam F) 94)) (.cells (ypA s (.slice ao dn dc) pw x1 x2 x3) 140);have bz:=af ((w.alloc (.cells (ylA 2 D L G gr sz ex fam F) 94)).alloc (.cells (ypA s (.slice ao dn dc) pw x1 x2 x3) 140)) (.cells (yfA false 0 0) 157);have ql0:=((ah w (ylL 2 D L G gr sz ex fam F) 94).l bp).l bz;have qp0:=(ah (w.alloc (.cells (ylA 2 D L G gr sz ex fam F) 94)) (ypL s (.slice ao dn dc) pw x1 x2 x3) 140).l bz;have qz0:=ah ((w.alloc (.cells (ylA 2 D L G gr sz ex fam F) 94)).alloc (.cells (ypA s (.slice ao dn dc) pw x1 x2 x3) 140)) (yfL false 0 0) 157;have b0:=aa (aa (af w (.cells (ylA 2 D L G gr sz ex fam F) 94)) bp) bz;rw[World.size_alloc] at qp0;rw[World.size_alloc,World.size_alloc] at qz0;have ba:=af (((w.alloc (.cells (ylA 2 D L G gr sz ex fam F) 94)).alloc (.cells (ypA s (.slice ao dn dc) pw x1 x2 x3) 140)).alloc (.cells (yfA false 0 0) 157)) (.cells (yfA false 0 0) 157);have b0d:=b0.drew;have b0a:=(aa b0 ba).drew;have ql0a:=(ql0.l ba).drew;have qp0a:=(qp0.l ba).drew;have ql0d:=ql0.drew;have qp0d:=qp0.drew;obtain⟨cx0,cx1,cx2,cx3,cx4,cx5,cx6,cx7,cx8⟩:=ql0d.cs9;obtain⟨cu0,cu1,cu2,cu3,cu4,cu5⟩:=qp0d.cs6;obtain⟨cxa0,cxa1,cxa2,cxa3,cxa4,cxa5,cxa6,cxa7,cxa8⟩:=ql0a.cs9;obtain⟨cua0,cua1,cua2,cua3,cua4,cua5⟩:=qp0a.cs6;have hn0:w.heap.size+1+1+1≠w.heap.size:=by omega
  have hn1:w.heap.size+1+1+1≠w.heap.size+1:=by omega
  go_enter func212,ntmps212
  go_wp2_with fail
  go_region_held3 (fun wq=>(wq.cell? ⟨w.heap.size,0,none⟩=some (yi 2)∧wq.cell? ⟨w.heap.size,1,none⟩=some (yi D)∧wq.cell? ⟨w.heap.size,2,none⟩=some (yi L)∧wq.cell? ⟨w.heap.size,3,none⟩=some (yi G)∧wq.cell? ⟨w.heap.size,4,none⟩=some (.bool gr)∧wq.cell? ⟨w.heap.size,5,none⟩=some (yi sz)∧wq.cell? ⟨w.heap.size,6,none⟩=some (yi ex)∧wq.cell? ⟨w.heap.size,7,none⟩=some (yi fam)∧wq.cell? ⟨w.heap.size,8,none⟩=some (.func (.func F) #[] #[]))∧(wq.cell? ⟨w.heap.size+1,0,none⟩=some (.bool s)∧wq.cell? ⟨w.heap.size+1,1,none⟩=some (.slice ao dn dc)∧wq.cell? ⟨w.heap.size+1,2,none⟩=some (yi pw)∧wq.cell? ⟨w.heap.size+1,3,none⟩=some (.bool x1)∧wq.cell? ⟨w.heap.size+1,4,none⟩=some (.bool x2)∧wq.cell? ⟨w.heap.size+1,5,none⟩=some (.bool x3))) (go_keep) (first
   | (go_at_call 264;(first| (with_reducible (refine(HWd'.out _ b0d).mono ?_))| (with_reducible (refine(HWd'.out _ b0a).mono ?_)));rintro z wv ⟨rfl,rfl⟩))
  first
  |
   rename Mgk 0=>_z
   all_goals (
    have ba4:=af (((w.alloc (.cells (ylA 2 D L G gr sz ex fam F) 94)).alloc (.cells (ypA s (.slice ao dn dc) pw x1 x2 x3) 140)).alloc (.cells (yfA false 0 0) 157)) (.cells (yfA s e f) 157);have ql4:=(ql0.l ba4).drew;have qz4:=(qz0.l ba4).drew;have qf4:=(ah (((w.alloc (.cells (ylA 2 D L G gr sz ex fam F) 94)).alloc (.cells (ypA s (.slice ao dn dc) pw x1 x2 x3) 140)).alloc (.cells (yfA false 0 0) 157)) (yfL s e f) 157).drew;rw[World.size_alloc,World.size_alloc,World.size_alloc] at qf4;have b4:=(aa b0 ba4).drew;clear ba4 ba b0d b0a ql0a qp0a ql0d qp0d ql0 qp0 qz0 b0 cx0 cxa0 cx1 cxa1 cx2 cxa2 cx3 cxa3 cx4 cxa4 cx5 cxa5 cx6 cxa6 cx7 cxa7 cx8 cxa8 cu0 cua0 cu1 cua1 cu2 cua2 cu3 cua3 cu4 cua4 cu5 cua5;generalize((((w.alloc (.cells (ylA 2 D L G gr sz ex fam F) 94)).alloc (.cells (ypA s (.slice ao dn dc) pw x1 x2 x3) 140)).alloc (.cells (yfA false 0 0) 157)).alloc (.cells (yfA s e f) 157)).drew=w4 at*;have ql4d:=ql4.drew;have qf4d:=qf4.drew;have qz4d:=qz4.drew;have b4d:=b4.drew;obtain⟨cl0,cl1,cl2,cl3,cl4,cl5,cl6,cl7,cl8⟩:=ql4d.cs9;obtain⟨cf0,cf1,cf2⟩:=qf4d.cs3
    go_wp2_with fail
    go_region_held3 (fun wq=>(wq.cell? ⟨w.heap.size,0,none⟩=some (yi 2)∧wq.cell? ⟨w.heap.size,1,none⟩=some (yi D)∧wq.cell? ⟨w.heap.size,2,none⟩=some (yi L)∧wq.cell? ⟨w.heap.size,3,none⟩=some (yi G)∧wq.cell? ⟨w.heap.size,4,none⟩=some (.bool gr)∧wq.cell? ⟨w.heap.size,5,none⟩=some (yi sz)∧wq.cell? ⟨w.heap.size,6,none⟩=some (yi ex)∧wq.cell? ⟨w.heap.size,7,none⟩=some (yi fam)∧wq.cell? ⟨w.heap.size,8,none⟩=some (.func (.func F) #[] #[]))∧(wq.cell? ⟨w.heap.size+1+1+1,0,none⟩=some (.bool s)∧wq.cell? ⟨w.heap.size+1+1+1,1,none⟩=some (yi e)∧wq.cell? ⟨w.heap.size+1+1+1,2,none⟩=some (.int .u64 f))) (go_keep) (first
     | (go_at_call 205;refine(HL'.out _).mono ?_;rintro z w5 ⟨rfl,b5'⟩;have ql5:=ql4d.l b5';have qf5:=qf4d.l b5';have qz5:=qz4d.l b5';have b5:=aa b4d b5';obtain⟨dl0,dl1,dl2,dl3,dl4,dl5,dl6,dl7,dl8⟩:=ql5.cs9;obtain⟨df0,df1,df2⟩:=qf5.cs3))
    clear ql4 ql4d qf4 qf4d qz4 qz4d b4 b4d b5' cl0 cl1 cl2 cl3 cl4 cl5 cl6 cl7 cl8 cf0 cf1 cf2;have jf1:=qf5.f 1;have hew:IntKind.i64.wrap ((e:Int)+1)=(e:Int)+1:=IntWalk.i64_in _ ⟨by omega,by omega⟩
    go_upto_region 4 with fail
    have hfz:w.heap.size+1+1+1≠w.heap.size+1+1:=by omega
    have bu6:=ag w5 (w.heap.size+1+1+1) 1 (yi ((e:Int)+1));have qf6:au (w5.setCell ⟨w.heap.size+1+1+1,1,none⟩ (yi ((e:Int)+1))) (w.heap.size+1+1+1) 157 (yfL s ((e:Int)+1) f):=qf5.set 1 (yi ((e:Int)+1));have qz6:=qz5.off hfz 1 (yi ((e:Int)+1));have b6:=bu6.below b5 (by omega);clear bu6 qf5 qz5 b5 ql5 df0 df1 df2 jf1;generalize(w5.setCell ⟨w.heap.size+1+1+1,1,none⟩ (yi ((e:Int)+1)))=w6 at*;have bu:=((ag w6 (w.heap.size+1+1) 0 (.bool s)).trans (ag _ (w.heap.size+1+1) 1 (yi ((e:Int)+1)))).trans (ag _ (w.heap.size+1+1) 2 (.int .u64 f));have cR:au (((w6.setCell ⟨w.heap.size+1+1,0,none⟩ (.bool s)).setCell ⟨w.heap.size+1+1,1,none⟩ (yi ((e:Int)+1))).setCell ⟨w.heap.size+1+1,2,none⟩ (.int .u64 f)) (w.heap.size+1+1) 157 (yfL s ((e:Int)+1) f):=(((qz6.set 0 (.bool s)).set 1 (yi ((e:Int)+1))).set 2 (.int .u64 f));have bR:=bu.below b6 (by omega);have hl:=run_loadVar_mid (P:=Tryz.prog) _ (w.heap.size+1+1) 0 157 (yfL s ((e:Int)+1) f) _ cR.range underlying157 rfl (by kernel_rfl);have HH:Hid (_∧_):=⟨hl,bR⟩;obtain⟨yz0,yz1,yz2⟩:=qz6.cs3;have jz0:=qz6.f 0;have jz1:=qz6.f 1;have jz2:=qz6.f 2;obtain⟨yf0,yf1,yf2⟩:=qf6.cs3;clear hl bR cR bu
    go_wp2
    obtain⟨hl,bR⟩:=HH.out;exact bodyPost_ret (br results212 rfl hl) rfl ⟨rfl,bR⟩
   )
  |
   all_goals (
    have ba4:=af (((w.alloc (.cells (ylA 2 D L G gr sz ex fam F) 94)).alloc (.cells (ypA s (.slice ao dn dc) pw x1 x2 x3) 140)).alloc (.cells (yfA false 0 0) 157)) (.cells (yfA s e f) 157);have ql4:=(ql0.l ba4).drew;have qz4:=(qz0.l ba4).drew;have qf4:=(ah (((w.alloc (.cells (ylA 2 D L G gr sz ex fam F) 94)).alloc (.cells (ypA s (.slice ao dn dc) pw x1 x2 x3) 140)).alloc (.cells (yfA false 0 0) 157)) (yfL s e f) 157).drew;rw[World.size_alloc,World.size_alloc,World.size_alloc] at qf4;have b4:=(aa b0 ba4).drew;clear ba4 ba b0d b0a ql0a qp0a ql0d qp0d ql0 qp0 qz0 b0 cx0 cxa0 cx1 cxa1 cx2 cxa2 cx3 cxa3 cx4 cxa4 cx5 cxa5 cx6 cxa6 cx7 cxa7 cx8 cxa8 cu0 cua0 cu1 cua1 cu2 cua2 cu3 cua3 cu4 cua4 cu5 cua5;generalize((((w.alloc (.cells (ylA 2 D L G gr sz ex fam F) 94)).alloc (.cells (ypA s (.slice ao dn dc) pw x1 x2 x3) 140)).alloc (.cells (yfA false 0 0) 157)).alloc (.cells (yfA s e f) 157)).drew=w4 at*;have ql4d:=ql4.drew;have qf4d:=qf4.drew;have qz4d:=qz4.drew;have b4d:=b4.drew;obtain⟨cl0,cl1,cl2,cl3,cl4,cl5,cl6,cl7,cl8⟩:=ql4d.cs9;obtain⟨cf0,cf1,cf2⟩:=qf4d.cs3
    go_wp2_with fail
    go_region_held3 (fun wq=>(wq.cell? ⟨w.heap.size,0,none⟩=some (yi 2)∧wq.cell? ⟨w.heap.size,1,none⟩=some (yi D)∧wq.cell? ⟨w.heap.size,2,none⟩=some (yi L)∧wq.cell? ⟨w.heap.size,3,none⟩=some (yi G)∧wq.cell? ⟨w.heap.size,4,none⟩=some (.bool gr)∧wq.cell? ⟨w.heap.size,5,none⟩=some (yi sz)∧wq.cell? ⟨w.heap.size,6,none⟩=some (yi ex)∧wq.cell? ⟨w.heap.size,7,none⟩=some (yi fam)∧wq.cell? ⟨w.heap.size,8,none⟩=some (.func (.func F) #[] #[]))∧(wq.cell? ⟨w.heap.size+1+1+1,0,none⟩=some (.bool s)∧wq.cell? ⟨w.heap.size+1+1+1,1,none⟩=some (yi e)∧wq.cell? ⟨w.heap.size+1+1+1,2,none⟩=some (.int .u64 f))) (go_keep) (first
     | (go_at_call 205;refine(HL'.out _).mono ?_;rintro z w5 ⟨rfl,b5'⟩;have ql5:=ql4d.l b5';have qf5:=qf4d.l b5';have qz5:=qz4d.l b5';have b5:=aa b4d b5';obtain⟨dl0,dl1,dl2,dl3,dl4,dl5,dl6,dl7,dl8⟩:=ql5.cs9;obtain⟨df0,df1,df2⟩:=qf5.cs3))
    clear ql4 ql4d qf4 qf4d qz4 qz4d b4 b4d b5' cl0 cl1 cl2 cl3 cl4 cl5 cl6 cl7 cl8 cf0 cf1 cf2;have bu:=((ag w5 (w.heap.size+1+1) 0 (.bool s)).trans (ag _ (w.heap.size+1+1) 1 (yi e))).trans (ag _ (w.heap.size+1+1) 2 (.int .u64 f));have cR:au (((w5.setCell ⟨w.heap.size+1+1,0,none⟩ (.bool s)).setCell ⟨w.heap.size+1+1,1,none⟩ (yi e)).setCell ⟨w.heap.size+1+1,2,none⟩ (.int .u64 f)) (w.heap.size+1+1) 157 (yfL s e f):=(((qz5.set 0 (.bool s)).set 1 (yi e)).set 2 (.int .u64 f));have bR:=bu.below b5 (by omega);have hl:=run_loadVar_mid (P:=Tryz.prog) _ (w.heap.size+1+1) 0 157 (yfL s e f) _ cR.range underlying157 rfl (by kernel_rfl);have HH:Hid (_∧_):=⟨hl,bR⟩;obtain⟨yz0,yz1,yz2⟩:=qz5.cs3;have jz0:=qz5.f 0;have jz1:=qz5.f 1;have jz2:=qz5.f 2;obtain⟨yf0,yf1,yf2⟩:=qf5.cs3;clear hl bR cR bu
    go_wp2
    obtain⟨hl,bR⟩:=HH.out;exact bodyPost_ret (br results212 rfl hl) rfl ⟨rfl,bR⟩
   )
def jp (w:World)(base:Nat)(v:Value)(bs:List Bool):Prop:=w.ownsRow base 4 1 v bs.length (bs.map Value.bool)
theorem Tryz.infoB:(Tryz.prog.info? 4).map (fun i=>(i.zero,i.size,i.bytes))=some (some (.bool false),1,1):=by kernel_rfl
theorem jp.l {w w':World}{base:Nat}{v:Value}{bs:List Bool}(h:jp w base v bs)(hb:yB w w'):jp w' base v bs:=by
 obtain⟨hl,h2⟩:=h;refine⟨hl, ?_⟩
 rcases h2 with h2| ⟨g,cap,cur,hv,hbg,hh,r⟩
 ·exact .inl h2
 ·refine .inr ⟨g,cap,cur,hv,hbg, ?_,r⟩
  rw[hb.block g ?_]
  ·exact hh
  ·rw[Array.getElem?_eq_some_iff] at hh
   exact hh.1
theorem adT (R D L G:Int)(gr s:Bool)(ao:Option Addr)(la ca:Nat)(e sg bl pw K wd:Int)(bs:Bool)(bn:Nat)(be:Int)(un bb hb:Bool)(rd:Nat)(rk:Int)(w:World)
  (hsg:(sg==0)=false) (W1:IntKind.i64.wrap (bl-1)=bl-1) (W2:IntKind.i64.wrap (bl-1+e)=bl-1+e) (W3:IntKind.i64.wrap (wd*K)=wd*K) (W4:IntKind.i64.wrap (e-wd*K)=e-wd*K)
  (hun:un=decide (pw<L)) (hbb:(un&&gr)=bb) (HP1:bb=true→K=L) (HP2:bb=false→K=pw)
  (HH1:hb=true→ ¬K<L∧ ¬G<K∧ ¬be<wd*K) (HH2:hb=false→K<L∨(¬K<L∧G<K)∨(¬K<L∧ ¬G<K∧be<wd*K)) (HR1:hb=true→rk=K) (HR2:hb=false→rd=0∧rk=0)
  (HSG:yH w 135 #[ydV s (.slice ao la ca) e] (yi sg))
  (HDI:yJ 198 #[ydV s (.slice ao la ca) e] (.slice ao la ca))
  (HBI:yH w 44 #[.slice ao la ca] (yi bl))
  (HPW:yJ 190 #[ygV R D L G gr,yi (bl-1+e)] (yi pw))
  (HWD:yJ 193 #[ygV R D L G gr] (yi wd))
  (HBA: ∀w1,yB w w1→yC 206 #[ydV s (.slice ao la ca) e] w1 (jN w1 ⟨bs,bn,be⟩))
  (HSH:hb=true→ ∀w1,yB w w1→yC 47 #[.slice ao la ca,yi (e-wd*K)] w1 (Num w1 rd)):
  yC 263 #[ygV R D L G gr,ydV s (.slice ao la ca) e] w (D7 w hb rd rk):=by
 replace HP1:Hid _:=HP1;replace HP2:Hid _:=HP2;replace HH1:Hid _:=HH1;replace HH2:Hid _:=HH2;replace HR1:Hid _:=HR1;replace HR2:Hid _:=HR2;replace HSG:Hid _:=HSG;replace HDI:Hid _:=HDI;replace HBI:Hid _:=HBI;replace HPW:Hid _:=HPW;replace HWD:Hid _:=HWD;replace HBA:Hid _:=HBA;replace HSH:Hid _:=HSH;have HUN:Hid _:=hun;have HBB:Hid _:=hbb;clear hun hbb;have b1:=aa (aa (af w (.cells (ygA R D L G gr) 197)) (af _ (.cells (ydA s (.slice ao la ca) e) 86))) (af _ (.cells #[yN,yi 0] 212));have g1:=((ah w (ygL R D L G gr) 197).l (af _ (.cells (ydA s (.slice ao la ca) e) 86))).l (af _ (.cells #[yN,yi 0] 212));have q1:=(ah (w.alloc (.cells (ygA R D L G gr) 197)) (ydL s (.slice ao la ca) e) 86).l (af _ (.cells #[yN,yi 0] 212));have c1:=ah ((w.alloc (.cells (ygA R D L G gr) 197)).alloc (.cells (ydA s (.slice ao la ca) e) 86)) [yN,yi 0] 212;simp only[World.size_alloc] at q1 c1;obtain⟨y0,y1,y2⟩:=q1.cs3
 go_enter func263,ntmps263
 go_wp2_with fail
 refine(HSG.out _ b1).mono ?_;rintro z w2 ⟨rfl,bb2⟩;clear y0 y1 y2;have g_2:=g1.l bb2;have q_2:=q1.l bb2;have c_2:=c1.l bb2;have b0_2:=aa b1 bb2;clear g1 q1 c1 b1 bb2;have bd_2:yB w2 w2.drew:=(Below.refl _ _).drew;have g_3:=g_2.l bd_2;have q_3:=q_2.l bd_2;have c_3:=c_2.l bd_2;have b0_3:=aa b0_2 bd_2;clear g_2 q_2 c_2 b0_2 bd_2;obtain⟨x0,x1,x2,x3,x4⟩:=g_3.cs5;obtain⟨y0,y1,y2⟩:=q_3.cs3
 go_wp2_with fail
 go_region_held3 (fun wq=>(wq.cell? ⟨w.heap.size,0,none⟩=some (yi R)∧wq.cell? ⟨w.heap.size,1,none⟩=some (yi D)∧wq.cell? ⟨w.heap.size,2,none⟩=some (yi L)∧wq.cell? ⟨w.heap.size,3,none⟩=some (yi G)∧wq.cell? ⟨w.heap.size,4,none⟩=some (.bool gr))∧wq.cell? ⟨w.heap.size+1,0,none⟩=some (.bool s)∧wq.cell? ⟨w.heap.size+1,1,none⟩=some (.slice ao la ca)∧wq.cell? ⟨w.heap.size+1,2,none⟩=some (yi e)) (go_keep) (first
  | (go_at_call 198;have hgd:=b0_3;clear hgd;refine(HDI.out _).mono ?_;rintro z wa ⟨rfl,bb_wa⟩;have b0_wa:=aa b0_3 bb_wa;have g_wa:=g_3.l bb_wa;have q_wa:=q_3.l bb_wa;have c_wa:=c_3.l bb_wa;obtain⟨xwa0,xwa1,xwa2,xwa3,xwa4⟩:=g_wa.cs5;obtain⟨ywa0,ywa1,ywa2⟩:=q_wa.cs3;clear b0_3)
  | (go_at_call 44;have hgd:=b0_wa;clear hgd;refine(HBI.out _ b0_wa).mono ?_;rintro z wb ⟨rfl,bb_wb⟩;have b0_wb:=aa b0_wa bb_wb;have g_wb:=g_wa.l bb_wb;have q_wb:=q_wa.l bb_wb;have c_wb:=c_wa.l bb_wb;obtain⟨xwb0,xwb1,xwb2,xwb3,xwb4⟩:=g_wb.cs5;obtain⟨ywb0,ywb1,ywb2⟩:=q_wb.cs3;clear b0_wa)
  | (go_at_call 190;have hgd:=b0_wb;clear hgd;refine(HPW.out _).mono ?_;rintro z wc ⟨rfl,bb_wc⟩;have b0_wc:=aa b0_wb bb_wc;have g_wc:=g_wb.l bb_wc;have q_wc:=q_wb.l bb_wc;have c_wc:=c_wb.l bb_wc;obtain⟨xwc0,xwc1,xwc2,xwc3,xwc4⟩:=g_wc.cs5;obtain⟨ywc0,ywc1,ywc2⟩:=q_wc.cs3;clear b0_wb))
 go_goals
 clear x0 x1 x2 x3 x4 y0 y1 y2 xwa0 xwa1 xwa2 xwa3 xwa4 xwb0 xwb1 xwb2 xwb3 xwb4 xwc0 xwc1 xwc2 xwc3 xwc4 ywa0 ywa1 ywa2 ywb0 ywb1 ywb2 ywc0 ywc1 ywc2;have x2:=g_wc.c 2 rfl;have x4:=g_wc.c 4 rfl;have hlt:decide (pw<L)=un:=HUN.out.symm
 go_upto_region 4 with fail
 skip
 go_cut [34] (fun s34 wx=>s34= .bool bb∧wx=wc)
 case first=>
  cases un
  ·go_wp2_with fail
   go_meet
   exact⟨by rw[←HBB.out];rfl,rfl⟩
  ·go_wp2_with fail
   go_meet
   exact⟨by rw[←HBB.out];rfl,rfl⟩
 case rest=>
  obtain⟨rfl,hw34⟩:=hcut;subst hw34
  go_upto_if 34 with fail
  go_cut [6] (fun s6 wx=>s6=yi K∧wx=wc)
  case first=>
   cases bb
   ·have eK:Hid (K=pw):=HP2.out rfl
    go_wp2_with fail
    go_meet
    exact⟨by rw[eK.out],rfl⟩
   ·have eK:Hid (K=L):=HP1.out rfl
    go_wp2_with fail
    go_meet
    exact⟨by rw[eK.out],rfl⟩
  case rest=>
   obtain⟨rfl,hw6⟩:=hcut;subst hw6;clear x2 x4 hlt HP1 HP2;obtain⟨x0,x1,x2,x3,x4⟩:=g_wc.cs5
   go_wp2_with fail
   refine(HWD.out _).mono ?_;rintro z w5 ⟨rfl,bb5⟩;clear x0 x1 x2 x3 x4;have g_11:=g_wc.l bb5;have q_11:=q_wc.l bb5;have c_11:=c_wc.l bb5;have b0_11:=aa b0_wc bb5;clear g_wc q_wc c_wc b0_wc bb5;obtain⟨x0,x1,x2,x3,x4⟩:=g_11.cs5;obtain⟨y0,y1,y2⟩:=q_11.cs3
   cases hb
   ·obtain⟨rfl,rfl⟩:=HR2.out rfl
    have hx:=HH2.out rfl;clear HH1 HH2 HR1 HR2 HSH
    rcases hx with hx| ⟨hx1,hx⟩| ⟨hx1,hx2,hx⟩
    ·skip
     have d0:=c_11.c 0 rfl;have f0:=c_11.f 0;have d1:=c_11.c 1 rfl;have f1:=c_11.f 1
     go_wp2
     have bu:But (w.heap.size+1+1) w5 ((w5.setCell ⟨w.heap.size+1+1,0,none⟩ yN).setCell ⟨w.heap.size+1+1,1,none⟩ (yi 0)):=(ag w5 (w.heap.size+1+1) 0 yN).trans (ag _ (w.heap.size+1+1) 1 (yi 0));have cX:au ((w5.setCell ⟨w.heap.size+1+1,0,none⟩ yN).setCell ⟨w.heap.size+1+1,1,none⟩ (yi 0)) (w.heap.size+1+1) 212 [yN,yi 0]:=(c_11.set 0 yN).set 1 (yi 0);have bX:=bu.below b0_11 (show w.heap.size≤w.heap.size+1+1 by omega)
     obtain⟨s0,s1⟩:=cX.cs2;refine bodyPost_ret (v:= .tuple #[.agg #[yN,yi 0],.bool false]) (by simp[results,results263,go_sem,s0,s1]) rfl ?_;exact⟨_,rfl,aQ _ _ _ _,bX⟩
    ·have e1:decide (K<L)=false:=decide_eq_false (by omega)
     have d0:=c_11.c 0 rfl;have f0:=c_11.f 0;have d1:=c_11.c 1 rfl;have f1:=c_11.f 1
     go_wp2
     have bu:But (w.heap.size+1+1) w5 ((w5.setCell ⟨w.heap.size+1+1,0,none⟩ yN).setCell ⟨w.heap.size+1+1,1,none⟩ (yi 0)):=(ag w5 (w.heap.size+1+1) 0 yN).trans (ag _ (w.heap.size+1+1) 1 (yi 0));have cX:au ((w5.setCell ⟨w.heap.size+1+1,0,none⟩ yN).setCell ⟨w.heap.size+1+1,1,none⟩ (yi 0)) (w.heap.size+1+1) 212 [yN,yi 0]:=(c_11.set 0 yN).set 1 (yi 0);have bX:=bu.below b0_11 (show w.heap.size≤w.heap.size+1+1 by omega)
     obtain⟨s0,s1⟩:=cX.cs2;refine bodyPost_ret (v:= .tuple #[.agg #[yN,yi 0],.bool false]) (by simp[results,results263,go_sem,s0,s1]) rfl ?_;exact⟨_,rfl,aQ _ _ _ _,bX⟩
    ·have e1:decide (K<L)=false:=decide_eq_false (by omega)
     have e2:decide (G<K)=false:=decide_eq_false (by omega)
     go_wp2_with fail
     refine(HBA.out _ b0_11).mono ?_;rintro z w6 ⟨vb,rfl,ob6,bb6⟩;obtain⟨vo6,vc6,hvb6⟩:=ob6.rd.shape;subst hvb6;clear ob6;have hfd:=fun W=>G0 bs vo6 (Dg.dg 4294967296 bn).length vc6 be W
     have hfe:=fun W=>Ju bs vo6 (Dg.dg 4294967296 bn).length vc6 be W
     clear x0 x1 x2 x3 x4 y0 y1 y2;have g_12:=g_11.l bb6;have q_12:=q_11.l bb6;have c_12:=c_11.l bb6;have b0_12:=aa b0_11 bb6;clear g_11 q_11 c_11 b0_11 bb6;have d0:=c_12.c 0 rfl;have f0:=c_12.f 0;have d1:=c_12.c 1 rfl;have f1:=c_12.f 1
     go_wp2
     have bu:But (w.heap.size+1+1) w6 ((w6.setCell ⟨w.heap.size+1+1,0,none⟩ yN).setCell ⟨w.heap.size+1+1,1,none⟩ (yi 0)):=(ag w6 (w.heap.size+1+1) 0 yN).trans (ag _ (w.heap.size+1+1) 1 (yi 0));have cX:au ((w6.setCell ⟨w.heap.size+1+1,0,none⟩ yN).setCell ⟨w.heap.size+1+1,1,none⟩ (yi 0)) (w.heap.size+1+1) 212 [yN,yi 0]:=(c_12.set 0 yN).set 1 (yi 0);have bX:=bu.below b0_12 (show w.heap.size≤w.heap.size+1+1 by omega)
     obtain⟨s0,s1⟩:=cX.cs2;refine bodyPost_ret (v:= .tuple #[.agg #[yN,yi 0],.bool false]) (by simp[results,results263,go_sem,s0,s1]) rfl ?_;exact⟨_,rfl,aQ _ _ _ _,bX⟩
   ·obtain⟨h1,h2,h3⟩:=HH1.out rfl
    have hrk:=HR1.out rfl;have HS1:Hid _:=HSH.out rfl;clear HH1 HH2 HR1 HR2 HSH;subst hrk;have e1:decide (rk<L)=false:=decide_eq_false (by omega);have e2:decide (G<rk)=false:=decide_eq_false (by omega);have e3:decide (be<wd*rk)=false:=decide_eq_false (by omega)
    go_wp2_with fail
    refine(HBA.out _ b0_11).mono ?_;rintro z w6 ⟨vb,rfl,ob6,bb6⟩;obtain⟨vo6,vc6,hvb6⟩:=ob6.rd.shape;subst hvb6;clear ob6;have hfd:=fun W=>G0 bs vo6 (Dg.dg 4294967296 bn).length vc6 be W
    have hfe:=fun W=>Ju bs vo6 (Dg.dg 4294967296 bn).length vc6 be W
    clear x0 x1 x2 x3 x4 y0 y1 y2;have g_12:=g_11.l bb6;have q_12:=q_11.l bb6;have c_12:=c_11.l bb6;have b0_12:=aa b0_11 bb6;clear g_11 q_11 c_11 b0_11 bb6;have bd_12:yB w6 w6.drew:=(Below.refl _ _).drew;have g_13:=g_12.l bd_12;have q_13:=q_12.l bd_12;have c_13:=c_12.l bd_12;have b0_13:=aa b0_12 bd_12;clear g_12 q_12 c_12 b0_12 bd_12;obtain⟨y0,y1,y2⟩:=q_13.cs3;have nA:w.heap.size+1+1≠w.heap.size+1:=by omega
    go_wp2_with fail
    go_region_held3 (fun wq=>wq.cell? ⟨w.heap.size+1,0,none⟩=some (.bool s)∧wq.cell? ⟨w.heap.size+1,1,none⟩=some (.slice ao la ca)∧wq.cell? ⟨w.heap.size+1,2,none⟩=some (yi e)) (go_keep) (first
     | (go_at_call 198;have hgd:=b0_13;clear hgd;refine(HDI.out _).mono ?_;rintro z wf ⟨rfl,bb_wf⟩;have b0_wf:=aa b0_13 bb_wf;have g_wf:=g_13.l bb_wf;have q_wf:=q_13.l bb_wf;have c_wf:=c_13.l bb_wf;obtain⟨ywf0,ywf1,ywf2⟩:=q_wf.cs3;clear b0_13)
     | (go_at_call 47;have hgd:=b0_wf;clear hgd;refine(HS1.out _ b0_wf).mono ?_;rintro z wg ⟨vs,rfl,os,bb_wg⟩;have b0_wg:=aa b0_wf bb_wg;have g_wg:=g_wf.l bb_wg;have q_wg:=q_wf.l bb_wg;have c_wg:=c_wf.l bb_wg;obtain⟨ywg0,ywg1,ywg2⟩:=q_wg.cs3;obtain⟨so,sc,hvs⟩:=os.rd.shape;subst hvs;obtain⟨d0,d1⟩:=c_wg.cs2;have f0:=c_wg.f 0;have f1:=c_wg.f 1;have oL:=os.lower b0_wf.size;clear b0_wf))
    go_goals
    clear d0 d1 f0 f1;have d0:=c_wg.c 0 rfl;have f0:=c_wg.f 0;have d1:=c_wg.c 1 rfl;have f1:=c_wg.f 1
    go_wp2
    have bu:But (w.heap.size+1+1) wg ((wg.setCell ⟨w.heap.size+1+1,0,none⟩ (yT so rd sc)).setCell ⟨w.heap.size+1+1,1,none⟩ (yi rk)):=(ag wg (w.heap.size+1+1) 0 (yT so rd sc)).trans (ag _ (w.heap.size+1+1) 1 (yi rk));have cX:au ((wg.setCell ⟨w.heap.size+1+1,0,none⟩ (yT so rd sc)).setCell ⟨w.heap.size+1+1,1,none⟩ (yi rk)) (w.heap.size+1+1) 212 [yT so rd sc,yi rk]:=(c_wg.set 0 (yT so rd sc)).set 1 (yi rk);have bX:=bu.below b0_wg (show w.heap.size≤w.heap.size+1+1 by omega)
    have oX:=bu.own oL c_wg (by decide);obtain⟨s0,s1⟩:=cX.cs2;refine bodyPost_ret (v:= .tuple #[.agg #[yT so rd sc,yi rk],.bool true]) (by simp[results,results263,go_sem,s0,s1]) rfl ?_;exact⟨_,rfl,oX,bX⟩
end Go.Proofs.YtdhpndnncmagiaaGreatDoor

/-
  Texts laid together: Cr8, Co25, Cr9, Cr11, Eg3.
-/
import Derived.Test.YtpgijbdgljkeeaaGreatDoorUb06
set_option maxRecDepth 100000
set_option maxHeartbeats 12800000
namespace Go.Proofs.YtpgijbdgljkeeaaGreatDoor
open _root_.Go.Proofs.Tryz
open Go.RowKit
theorem Ll (sz ex fr lg:Nat)(R D L G wd:Int)(gr:Bool)(s:ByteArray)(ts:List Nat)(ng:Bool)(E FF:Nat)(w:World)
  (hng:ng=decide (fU ts 0=1)) (hE:E=eH ts 1 ex) (hFF:FF=eH ts (1+ex) fr) (hfr:1+ex+fr=8*sz) (hex:ex≤15) (hex7:7≤ex) (hsz:sz≤10) (hfr64:fr≤64) (hfr1:1≤fr) (hD:D=(lg:Int)+1) (hlg:lg≤63) (hL1: -20000≤L) (hL2:L≤0) (hw1:1≤wd) (hw4:wd≤4)
  (HF:yJ 14 #[yi 3] (.tuple #[yhV sz ex fr R D L G gr 1,.bool true]))
  (HB: ∀w1,yC 48 #[yi 3,.string s] w1 fun z w'=> ∃v,z= .returned v∧jp w' w1.heap.size v (qV ts (8*sz))∧yB w1 w')
  (HWI:yJ 52 #[ygV R D L G gr] (yi wd)):
  yC 21 #[yi 3,.string s] w (JV w (if E+1=2^ex then(if FF=2^lg then 3 else 4) else if 0<E∧FF<2^lg then 4 else if FF=0 then 1 else 2) (if E+1=2^ex then(if FF=2^lg then ng else false) else if 0<E∧FF<2^lg then false else ng) (if E+1=2^ex∨0<E∧FF<2^lg then⟨false,0,0⟩ else bare ⟨ng,FF,wd*(L+(((E-1:Nat):Nat):Int))⟩) ng):=by
 have HF':Hid _:=HF;have HB':Hid _:=HB;have HWI':Hid _:=HWI;have hEl:E<32768:=by
  have h1:=gh ts 1 ex;have h2:(2:Nat)^ex≤2^15:=Nat.pow_le_pow_right (by omega) hex;omega
 have hFl:FF<18446744073709551616:=by
  have h1:=gh ts (1+ex) fr;have h2:(2:Nat)^fr≤2^64:=Nat.pow_le_pow_right (by omega) hfr64;omega
 have HM:Hid (_∧_∧_∧_):=⟨hng,hE,hFF,hfr⟩;have b0:=af w (.cells (yoA 0 false false yN 0) 49);have q0:=ah w (yoL 0 false false yN 0) 49;have hDw:IntKind.i64.wrap (D-1)=(lg:Int):=by rw[hD,show lg+1-1=(lg:Int) from by omega];exact IntWalk.i64_in _ ⟨by omega,by omega⟩
 clear HF HB HWI hng hE hFF hfr hD;obtain⟨cl,hcl0⟩: ∃x:Int,(if E+1=2^ex then(if FF=2^lg then 3 else 4) else if 0<E∧FF<2^lg then 4 else if FF=0 then 1 else 2)=x:=⟨_,rfl⟩
 obtain⟨gg,hgg0⟩: ∃x:Bool,(if E+1=2^ex then(if FF=2^lg then ng else false) else if 0<E∧FF<2^lg then false else ng)=x:=⟨_,rfl⟩
 obtain⟨t6,ht6⟩: ∃t:ak,(if E+1=2^ex∨0<E∧FF<2^lg then⟨false,0,0⟩ else bare ⟨ng,FF,wd*(L+(((E-1:Nat):Nat):Int))⟩)=t:=⟨_,rfl⟩
 rw[hcl0,hgg0,ht6];have HC0:Hid (_∧_∧_):=⟨hcl0,hgg0,ht6⟩;clear hcl0 hgg0 ht6
 go_enter func21,ntmps21
 go_wp2_with fail
 refine(HF'.out _).mono ?_;rintro z w1 ⟨rfl,b1⟩;have ba:=af w1 (.cells (yhA sz ex fr R D L G gr 1) 42);have f1:=ah w1 (yhL sz ex fr R D L G gr 1) 42;have q1:=(q0.l b1).l ba;have b01:=aa (aa b0 b1) ba;obtain⟨bf,ebf⟩: ∃x,w1.heap.size=x:=⟨_,rfl⟩;have hbf0:w.heap.size<bf:=by rw[←ebf];exact(q0.l b1).lt
 rw[ebf] at f1;clear b0 q0 b1 ba
 go_wp2_with fail
 refine(HB'.out _).mono ?_;rintro z w2 ⟨v2,rfl,own2,b2⟩;obtain⟨hng,hE,hFF,hfr⟩:=HM.out;have hbl:=kS ts (8*sz);obtain⟨g,cap,hv2,hcap,hcapm,hcl⟩:=x9 own2 (by omega);rw[hbl] at hv2 hcap;subst hv2;have hcl': ∀i,i<8*sz→w2.cell? ⟨g,i,none⟩=some (.bool (decide (fU ts i=1))):=fun i hi=>hcl i _ (wW ts _ i hi)
 have c0:=hcl' 0 (by omega);rw[←hng] at c0;have bb:=af w2 (.cells #[.bool ng] 4);have F2:zQ w w2.heap.size bf ng (yhL sz ex fr R D L G gr 1) (w2.alloc (.cells #[.bool ng] 4)):=⟨(q1.l b2).l bb,(f1.l b2).l bb,ah w2 _ _,aa (aa b01 b2) bb⟩;have HCL:Hid (∀i,i<8*sz→(w2.alloc (.cells #[.bool ng] 4)).cell? ⟨g,i,none⟩=some (.bool (decide (fU ts i=1)))):=fun i hi=>cell_later bb (hcl' i hi)
 have hszI:(8*sz:Nat)=(8*sz:Nat):=rfl;have y1:=F2.f.c 1 rfl;clear hcl hcl' own2 b2 q1 f1 b01 bb hng hE hFF hbl hszI;obtain⟨nb,hnb⟩: ∃x,8*sz=x:=⟨_,rfl⟩;rw[hnb] at hcap HCL⊢;have hnb8:8≤nb:=by omega
 have hnbx:1+ex+fr=nb:=by omega
 unfold maxLen at hcapm
 go_wp2
 go_loop [10,11,12] (fun ev ov iv=> ∃(j i x:Nat) (on:Bool),Hid (i=j+1∧x=eH ts 1 j∧on=decide (x+1=2^j))∧i≤ex+1∧x<32768∧ev=yi x∧ov= .bool on∧iv=yi i) (fun _ _ iv=>((ex:Int)+1-intOf iv).toNat)
 case atStart=>exact⟨0,1,0,true,⟨rfl,rfl,rfl⟩,by omega,by omega,rfl,rfl,rfl⟩
 case round=>
  obtain⟨j,i,x,on,HX,hi,hxl,rfl,rfl,rfl⟩:=hrel
  by_cases hlt:i≤ex
  ·obtain⟨hij,hx,hon⟩:=HX.out
   have ci:=HCL.out i (by omega);obtain⟨b,eb⟩: ∃b,decide (fU ts i=1)=b:=⟨_,rfl⟩;rw[eb] at ci;have hbt:=xW ts i;have hsu:eH ts 1 (j+1)=2*x+(if b then 1 else 0):=by
    rw[eH,←hx,show 1+j=i from by omega,←eb]
    by_cases h:fU ts i=1
    ·rw[h];rfl
    ·rw[show fU ts i=0 from by omega];rfl
   have hst:=za (b:=b) hon;have hl1:=gh ts 1 (j+1);have hl2:(2:Nat)^ (j+1)≤2^15:=Nat.pow_le_pow_right (by omega) (by omega);have HS:Hid (_∧_∧_∧_):=⟨hij,hsu,hst,hl1⟩;have hib:i<nb:=by omega
   have hiI:(i:Int)≤(ex:Int):=by omega
   clear hij hx hon eb hbt hsu hst hl1 HX
   cases b<;>cases on
   all_goals go_wp2
   all_goals (obtain⟨hij,hsu,hst,hl1⟩:=HS.out;simp only[Bool.false_eq_true,if_false,if_true] at hsu hst;refine⟨⟨j+1,i+1,eH ts 1 (j+1),_,⟨by omega,rfl,by rw[hsu];exact hst⟩,by omega,by omega,by rw[hsu];first|rfl| (congr 1;done)| (congr 1;omega),rfl,by first|rfl| (congr 1;done)| (congr 1;omega)⟩,by simp only[intOf];omega⟩)
  ·obtain⟨hij,hx,hon⟩:=HX.out
   have hjx:j=ex:=by omega
   obtain⟨hng,hE,hFF,hfr⟩:=HM.out;have hxE:x=E:=by rw[hx,hE,hjx]
   subst hxE;have HON:Hid (on=decide (x+1=2^ex)):=by rw[←hjx];exact hon
   have hdI: ¬((i:Int)≤(ex:Int)):=by omega
   have hv:=fun w1 (h: ∀k,k<fr→w1.cell? ⟨g,1+ex+k,none⟩=some (.bool (decide (fU ts (1+ex+k)=1))))=>pV g (1+ex) fr (cap-(1+ex)) (fun k=>decide (fU ts (1+ex+k)=1)) w1 hfr64 h
   rw[uz,←hFF] at hv;have hvv:=hv _ (fun k hk=>HCL.out (1+ex+k) (by omega))
   have HV:Hid (yC 49 #[.slice (some ⟨g,1+ex,none⟩) fr (cap-(1+ex))] (w2.alloc (.cells #[.bool ng] 4)) (cG (w2.alloc (.cells #[.bool ng] 4)) FF)):=hvv;have HP:Hid (∀w1,yC 50 #[yi lg] w1 (cG w1 (2^lg))):=fun w1=>pf lg (lg/16) (lg % 16) w1 (by omega) (Nat.mod_lt _ (by omega)) (by omega)
   clear hv hvv hij hx hon hjx hng hE hFF hfr HX HCL hdI;have hex1:IntKind.i64.wrap (1+(ex:Int))=((1+ex:Nat):Int):=by rw[show(1:Int)+(ex:Int)=((1+ex:Nat):Int) from by omega];exact IntWalk.i64_in _ ⟨by omega,by omega⟩
   have hei:(ex:Int)< (i:Int):=by omega
   have hsub:nb-(1+ex)=fr:=by omega
   have hce: ¬(1+ex=cap):=by omega
   have hce2: ¬(cap=1+ex):=by omega
   have hce3:1+ex<cap:=by omega
   go_wp2_with fail
   refine Calls.mono HV.out ?_;rintro z w4 ⟨v4,rfl,r4,b4⟩;obtain⟨ao,ca,hv4⟩:=r4.shape;subst hv4;have F4:=F2.l b4;clear F2 HV b4 y1 c0;obtain⟨y0,y1,y2,y3,y4,y5,y6,y7,y8⟩:=F4.f.cs9
   go_wp2_with fail
   refine(HP.out _).mono ?_;rintro z w5 ⟨v5,rfl,r5,b5⟩;obtain⟨lo,lc,hv5⟩:=r5.shape;subst hv5;have F5:=F4.l b5;have r45:=r4.l b5;clear y0 y1 y2 y3 y4 y5 y6 y7 y8 F4 r4 b5 HP;obtain⟨bn,ebn⟩: ∃x,w2.heap.size=x:=⟨_,rfl⟩;rw[ebn] at F5⊢;have hbn0:w.heap.size≠bn:=fun h=>by
    have h1:=F5.q;rw[h] at h1;exact F5.n.ne h1 (.inl (by simp)) rfl
   clear ebn ebf;have HNum:Hid (∀(m:Nat) (p:Int) (v:Value) w1,Rd w1 .i64 v (Dg.dg 65536 m)→m<340282366920938463463374607431768211456→zQ w bn bf ng (yhL sz ex fr R D L G gr 1) w1→ -100000≤p→p≤100000→yC 51 #[v,yi p,.pointer (some ⟨bn,0,none⟩),.pointer (some ⟨bf,0,none⟩)] w1 (Hf w1 (if m=0 then 1 else 2) ng (bare ⟨ng,m,wd*p⟩))):=fun m p v w1 h1 h2 h3 h4 h5=>sL sz ex fr _ _ _ _ _ wd gr ng bn bf m p v w1 h1 h2 (h3.n.c 0 rfl) h3.f hw1 hw4 h4 h5 HWI'.out
   have hLw:IntKind.i64.wrap (L+(x:Int))=L+(x:Int):=IntWalk.i64_in _ ⟨by omega,by omega⟩;have n5:=F5.n.c 0 rfl;obtain⟨y0,y1,y2,y3,y4,y5,y6,y7,y8⟩:=F5.f.cs9;have hpl:2^lg≤2^63:=Nat.pow_le_pow_right (by omega) hlg;have hpp:0<2^lg:=Nat.pow_pos (by omega);have hex2:2≤2^ex:=by
    have:2^1≤2^ex:=Nat.pow_le_pow_right (by omega) (by omega);omega
   obtain⟨pl,epl⟩: ∃y,2^lg=y:=⟨_,rfl⟩;obtain⟨px,epx⟩: ∃y,2^ex=y:=⟨_,rfl⟩;rw[epl] at r5 hpl hpp HC0⊢;rw[epx] at HC0 HON hex2;clear epl epx;obtain⟨hc1,hc2,hc3⟩:=HC0.out;have hon:=HON.out;have hlF:(Dg.dg 65536 FF).length≤4:=Dg.dg_len_le 65536 FF 4 (by omega) (by omega);have hlP:(Dg.dg 65536 pl).length≤4:=Dg.dg_len_le 65536 pl 4 (by omega) (by omega);obtain⟨xm,exm⟩: ∃y,x-1=y:=⟨_,rfl⟩;rw[exm] at hc3;have hxm:max (0:Int) ((x:Int)-1)=(xm:Int):=by omega
   have hxw:IntKind.i64.wrap ((x:Int)-1)=(x:Int)-1:=IntWalk.i64_in _ ⟨by omega,by omega⟩;have hLm:IntKind.i64.wrap (L+(xm:Int))=L+(xm:Int):=IntWalk.i64_in _ ⟨by omega,by omega⟩
   by_cases hO:x+1=px
   ·rw[decide_eq_true hO] at hon
    subst hon;rw[if_pos hO] at hc1 hc2;rw[if_pos (.inl hO)] at hc3;subst hc3;clear HNum HWI' HC0 HON exm
    by_cases hF0:FF=pl
    ·rw[if_pos hF0] at hc1 hc2
     subst hc1 hc2;have hcm:dm FF (pl:Int)=0:=by unfold dm;rw[if_neg (by omega),if_neg (by omega)]
     clear hF0;have HCm:Hid (yC 54 #[yS ao FF ca,yS lo pl lc] w5 (yR w5 (yi (0)))):=by
      have:=fm _ _ _ _ w5 r45 r5 (Dg.small_dg 65536 FF (by omega)) (Dg.small_dg 65536 pl (by omega)) (Dg.norm_dg 65536 FF (by omega)) (Dg.norm_dg 65536 pl (by omega));rw[Dg.vl_dg 65536 FF (by omega),Dg.vl_dg 65536 pl (by omega),hcm] at this;exact this
     go_wp2_with fail
     refine Calls.mono HCm.out ?_;rintro z wp ⟨rfl,bp⟩;have Fp:=F5.l bp;have np:=Fp.n.c 0 rfl;have rp:=r45.l bp;clear n5 y0 y1 y2 y3 y4 y5 y6 y7 y8 F5 bp HCm r45 r5;have Fpd:=Fp.l (Below.refl _ _).drew;have rR:=aN (((((wp.setCell ⟨w.heap.size,0,none⟩ (yi 3)).setCell ⟨w.heap.size,1,none⟩ (.bool ng)).setCell ⟨w.heap.size,2,none⟩ (.bool false)).setCell ⟨w.heap.size,3,none⟩ yN).setCell ⟨w.heap.size,4,none⟩ (yi 0)).drew .i64;have bu:=((((ag wp w.heap.size 0 (yi 3)).trans (ag _ w.heap.size 1 (.bool ng))).trans (ag _ w.heap.size 2 (.bool false))).trans (ag _ w.heap.size 3 yN)).trans (ag _ w.heap.size 4 (yi 0));have cR:au (((((wp.setCell ⟨w.heap.size,0,none⟩ (yi 3)).setCell ⟨w.heap.size,1,none⟩ (.bool ng)).setCell ⟨w.heap.size,2,none⟩ (.bool false)).setCell ⟨w.heap.size,3,none⟩ yN).setCell ⟨w.heap.size,4,none⟩ (yi 0)).drew w.heap.size 49 (yoL 3 ng false yN 0):=((((((Fp.q.set 0 (yi 3)).set 1 (.bool ng)).set 2 (.bool false)).set 3 yN).set 4 (yi 0))).drew;have bR:=(bu.below Fp.b (Nat.le_refl _)).drew;have hl:=run_loadVar_mid (P:=Tryz.prog) _ w.heap.size 0 49 (yoL 3 ng false yN 0) _ cR.range underlying49 rfl (by kernel_rfl);have HH:Hid (_∧_∧_):=⟨hl,rR,bR⟩;obtain⟨q0,q1,q2,q3,q4⟩:=Fpd.q.cs5;have j0:=Fpd.q.f 0;have j1:=Fpd.q.f 1;have j2:=Fpd.q.f 2;have j3:=Fpd.q.f 3;have j4:=Fpd.q.f 4;obtain⟨qx0,qx1,qx2,qx3,qx4⟩:=Fp.q.cs5;have jx0:=Fp.q.f 0;have jx1:=Fp.q.f 1;have jx2:=Fp.q.f 2;have jx3:=Fp.q.f 3;have jx4:=Fp.q.f 4;have npd:=Fpd.n.c 0 rfl;clear hl rR bR cR bu Fpd Fp
     go_wp2_with fail
     go_region_held3 (fun wq=>wq.cell? ⟨bn,0,none⟩=some (.bool ng)) (go_keep) (first|fail)
     all_goals go_wp2
     all_goals (obtain⟨hl,rR,bR⟩:=HH.out;exact bodyPost_ret (aj results21 rfl rfl hl) rfl ⟨_,rfl,rR,bR,lO _⟩)
    ·rw[if_neg hF0] at hc1 hc2
     subst hc1 hc2;obtain⟨cm,hcm⟩: ∃y,dm FF (pl:Int)=y:=⟨_,rfl⟩;have hcz:(cm==0)=false:=by
      rw[←hcm];unfold dm
      by_cases h:(FF:Int)< (pl:Int)
      ·rw[if_pos h];rfl
      ·rw[if_neg h,if_pos (by omega)];rfl
     clear hF0;have HCm:Hid (yC 54 #[yS ao FF ca,yS lo pl lc] w5 (yR w5 (yi (cm)))):=by
      have:=fm _ _ _ _ w5 r45 r5 (Dg.small_dg 65536 FF (by omega)) (Dg.small_dg 65536 pl (by omega)) (Dg.norm_dg 65536 FF (by omega)) (Dg.norm_dg 65536 pl (by omega));rw[Dg.vl_dg 65536 FF (by omega),Dg.vl_dg 65536 pl (by omega),hcm] at this;exact this
     go_wp2_with fail
     refine Calls.mono HCm.out ?_;rintro z wp ⟨rfl,bp⟩;have Fp:=F5.l bp;have np:=Fp.n.c 0 rfl;have rp:=r45.l bp;clear n5 y0 y1 y2 y3 y4 y5 y6 y7 y8 F5 bp HCm r45 r5;have Fpd:=Fp.l (Below.refl _ _).drew;have rR:=aN (((((wp.setCell ⟨w.heap.size,0,none⟩ (yi 4)).setCell ⟨w.heap.size,1,none⟩ (.bool false)).setCell ⟨w.heap.size,2,none⟩ (.bool false)).setCell ⟨w.heap.size,3,none⟩ yN).setCell ⟨w.heap.size,4,none⟩ (yi 0)).drew .i64;have bu:=((((ag wp w.heap.size 0 (yi 4)).trans (ag _ w.heap.size 1 (.bool false))).trans (ag _ w.heap.size 2 (.bool false))).trans (ag _ w.heap.size 3 yN)).trans (ag _ w.heap.size 4 (yi 0));have cR:au (((((wp.setCell ⟨w.heap.size,0,none⟩ (yi 4)).setCell ⟨w.heap.size,1,none⟩ (.bool false)).setCell ⟨w.heap.size,2,none⟩ (.bool false)).setCell ⟨w.heap.size,3,none⟩ yN).setCell ⟨w.heap.size,4,none⟩ (yi 0)).drew w.heap.size 49 (yoL 4 false false yN 0):=((((((Fp.q.set 0 (yi 4)).set 1 (.bool false)).set 2 (.bool false)).set 3 yN).set 4 (yi 0))).drew;have bR:=(bu.below Fp.b (Nat.le_refl _)).drew;have hl:=run_loadVar_mid (P:=Tryz.prog) _ w.heap.size 0 49 (yoL 4 false false yN 0) _ cR.range underlying49 rfl (by kernel_rfl);have HH:Hid (_∧_∧_):=⟨hl,rR,bR⟩;obtain⟨q0,q1,q2,q3,q4⟩:=Fpd.q.cs5;have j0:=Fpd.q.f 0;have j1:=Fpd.q.f 1;have j2:=Fpd.q.f 2;have j3:=Fpd.q.f 3;have j4:=Fpd.q.f 4;obtain⟨qx0,qx1,qx2,qx3,qx4⟩:=Fp.q.cs5;have jx0:=Fp.q.f 0;have jx1:=Fp.q.f 1;have jx2:=Fp.q.f 2;have jx3:=Fp.q.f 3;have jx4:=Fp.q.f 4;have npd:=Fpd.n.c 0 rfl;clear hl rR bR cR bu Fpd Fp
     go_wp2_with fail
     go_region_held3 (fun wq=>wq.cell? ⟨bn,0,none⟩=some (.bool ng)) (go_keep) (first|fail)
     all_goals go_wp2
     all_goals (obtain⟨hl,rR,bR⟩:=HH.out;exact bodyPost_ret (aj results21 rfl rfl hl) rfl ⟨_,rfl,rR,bR,lO _⟩)
   ·rw[decide_eq_false hO] at hon
    subst hon;rw[if_neg hO] at hc1 hc2
    by_cases hx0:0<x
    ·have hxI:(0:Int)< (x:Int):=by omega
     by_cases hF:FF<pl
     ·rw[if_pos ⟨hx0,hF⟩] at hc1 hc2
      rw[if_pos (.inr ⟨hx0,hF⟩)] at hc3;subst hc1 hc2 hc3;have hcm:dm FF (pl:Int)= -1:=by unfold dm;rw[if_pos (by omega)]
      clear HNum HWI' HC0 HON exm hF;have HCm:Hid (yC 54 #[yS ao FF ca,yS lo pl lc] w5 (yR w5 (yi (-1)))):=by
       have:=fm _ _ _ _ w5 r45 r5 (Dg.small_dg 65536 FF (by omega)) (Dg.small_dg 65536 pl (by omega)) (Dg.norm_dg 65536 FF (by omega)) (Dg.norm_dg 65536 pl (by omega));rw[Dg.vl_dg 65536 FF (by omega),Dg.vl_dg 65536 pl (by omega),hcm] at this;exact this
      go_wp2_with fail
      refine Calls.mono HCm.out ?_;rintro z wp ⟨rfl,bp⟩;have Fp:=F5.l bp;have np:=Fp.n.c 0 rfl;have rp:=r45.l bp;clear n5 y0 y1 y2 y3 y4 y5 y6 y7 y8 F5 bp HCm r45 r5;have Fpd:=Fp.l (Below.refl _ _).drew;have rR:=aN (((((wp.setCell ⟨w.heap.size,0,none⟩ (yi 4)).setCell ⟨w.heap.size,1,none⟩ (.bool false)).setCell ⟨w.heap.size,2,none⟩ (.bool false)).setCell ⟨w.heap.size,3,none⟩ yN).setCell ⟨w.heap.size,4,none⟩ (yi 0)).drew .i64;have bu:=((((ag wp w.heap.size 0 (yi 4)).trans (ag _ w.heap.size 1 (.bool false))).trans (ag _ w.heap.size 2 (.bool false))).trans (ag _ w.heap.size 3 yN)).trans (ag _ w.heap.size 4 (yi 0));have cR:au (((((wp.setCell ⟨w.heap.size,0,none⟩ (yi 4)).setCell ⟨w.heap.size,1,none⟩ (.bool false)).setCell ⟨w.heap.size,2,none⟩ (.bool false)).setCell ⟨w.heap.size,3,none⟩ yN).setCell ⟨w.heap.size,4,none⟩ (yi 0)).drew w.heap.size 49 (yoL 4 false false yN 0):=((((((Fp.q.set 0 (yi 4)).set 1 (.bool false)).set 2 (.bool false)).set 3 yN).set 4 (yi 0))).drew;have bR:=(bu.below Fp.b (Nat.le_refl _)).drew;have hl:=run_loadVar_mid (P:=Tryz.prog) _ w.heap.size 0 49 (yoL 4 false false yN 0) _ cR.range underlying49 rfl (by kernel_rfl);have HH:Hid (_∧_∧_):=⟨hl,rR,bR⟩;obtain⟨q0,q1,q2,q3,q4⟩:=Fpd.q.cs5;have j0:=Fpd.q.f 0;have j1:=Fpd.q.f 1;have j2:=Fpd.q.f 2;have j3:=Fpd.q.f 3;have j4:=Fpd.q.f 4;obtain⟨qx0,qx1,qx2,qx3,qx4⟩:=Fp.q.cs5;have jx0:=Fp.q.f 0;have jx1:=Fp.q.f 1;have jx2:=Fp.q.f 2;have jx3:=Fp.q.f 3;have jx4:=Fp.q.f 4;have npd:=Fpd.n.c 0 rfl;clear hl rR bR cR bu Fpd Fp
      go_wp2_with fail
      go_region_held3 (fun wq=>wq.cell? ⟨bn,0,none⟩=some (.bool ng)) (go_keep) (first|fail)
      all_goals go_wp2
      all_goals (obtain⟨hl,rR,bR⟩:=HH.out;exact bodyPost_ret (aj results21 rfl rfl hl) rfl ⟨_,rfl,rR,bR,lO _⟩)
     ·rw[if_neg (fun h=>hF h.2)] at hc1 hc2
      rw[if_neg (fun h=>h.elim hO (fun h=>hF h.2))] at hc3
      subst hc2;obtain⟨cm,hcm⟩: ∃y,dm FF (pl:Int)=y:=⟨_,rfl⟩;have hcz: ¬(cm<0):=by
       rw[←hcm];unfold dm;rw[if_neg (by omega)]
       split<;>omega
      clear hF;have HCm:Hid (yC 54 #[yS ao FF ca,yS lo pl lc] w5 (yR w5 (yi (cm)))):=by
       have:=fm _ _ _ _ w5 r45 r5 (Dg.small_dg 65536 FF (by omega)) (Dg.small_dg 65536 pl (by omega)) (Dg.norm_dg 65536 FF (by omega)) (Dg.norm_dg 65536 pl (by omega));rw[Dg.vl_dg 65536 FF (by omega),Dg.vl_dg 65536 pl (by omega),hcm] at this;exact this
      go_wp2_with fail
      refine Calls.mono HCm.out ?_;rintro z wp ⟨rfl,bp⟩;have Fp:=F5.l bp;have np:=Fp.n.c 0 rfl;have rp:=r45.l bp;clear n5 y0 y1 y2 y3 y4 y5 y6 y7 y8 F5 bp HCm r45 r5;have HN6:Hid (∀v w1,Rd w1 .i64 v (Dg.dg 65536 (FF))→zQ w bn bf ng (yhL sz ex fr R D L G gr 1) w1→yC 51 #[v,yi (L+(xm:Int)),.pointer (some ⟨bn,0,none⟩),.pointer (some ⟨bf,0,none⟩)] w1 (Hf w1 cl ng t6)):=fun v w1 h1 h2=>by
       have:=HNum.out (FF) (L+(xm:Int)) v w1 h1 (by omega) h2 (by omega) (by omega);rw[hc1,hc3] at this;exact this
      have F5d:=Fp.l (Below.refl _ _).drew;have rvd:=rp.l (Below.refl _ _).drew;clear HNum HWI' HC0 hc1 hc3 exm
      go_wp2_with fail
      go_region_held3 (fun wq=>wq.cell? ⟨bn,0,none⟩=some (.bool ng)) (go_keep) (first
       | (go_at_call 51;refine(HN6.out _ _ rvd F5d).mono ?_;rintro z w6 ⟨s6,rfl,r6,b6,f6⟩;obtain⟨so,sc,hs6⟩:=r6.shape;subst hs6;have F6:=F5d.l b6;replace f6:Hid (Far w.heap.size _):=(fun a n c h=>Nat.le_trans F5d.b.size (f6 a n c h):Far w.heap.size _);have n6:=F6.n.c 0 rfl;obtain⟨q0,q1,q2,q3,q4⟩:=F6.q.cs5;have j0:=F6.q.f 0;have j1:=F6.q.f 1;have j2:=F6.q.f 2;have j3:=F6.q.f 3;have j4:=F6.q.f 4))
      have bu:=((((ag w6 w.heap.size 0 (yi cl)).trans (ag _ w.heap.size 1 (.bool ng))).trans (ag _ w.heap.size 2 (.bool t6.s))).trans (ag _ w.heap.size 3 (yS so t6.n sc))).trans (ag _ w.heap.size 4 (yi t6.e));have cR:au (((((w6.setCell ⟨w.heap.size,0,none⟩ (yi cl)).setCell ⟨w.heap.size,1,none⟩ (.bool ng)).setCell ⟨w.heap.size,2,none⟩ (.bool t6.s)).setCell ⟨w.heap.size,3,none⟩ (yS so t6.n sc)).setCell ⟨w.heap.size,4,none⟩ (yi t6.e)) w.heap.size 49 (yEL cl ng t6 so sc):=(((((F6.q.set 0 (yi cl)).set 1 (.bool ng)).set 2 (.bool t6.s)).set 3 (yS so t6.n sc)).set 4 (yi t6.e));have bR:=bu.below F6.b (Nat.le_refl _);have ov:=cq r6 (Dg.norm_dg _ _ (by omega)) F6.q (fun x hx n hn=>by simp at hx;rcases hx with rfl|rfl|rfl|rfl|rfl<;>simp;all_goals omega)
      have rR:=bu.rd r6 ov;have hl:=run_loadVar_mid (P:=Tryz.prog) _ w.heap.size 0 49 (yEL cl ng t6 so sc) _ cR.range underlying49 rfl (by kernel_rfl);have HH:Hid (_∧_∧_):=⟨hl,rR,bR⟩;clear hl rR bR cR bu
      go_wp2
      obtain⟨hl,rR,bR⟩:=HH.out;exact bodyPost_ret (aj results21 rfl rfl hl) rfl ⟨_,rfl,rR,bR,f6.out⟩
    ·rw[if_neg (fun h=>hx0 h.1)] at hc1 hc2
     rw[if_neg (fun h=>h.elim hO (fun h=>hx0 h.1))] at hc3
     subst hc2;have hxI: ¬((0:Int)< (x:Int)):=by omega
     have HN6:Hid (∀v w1,Rd w1 .i64 v (Dg.dg 65536 (FF))→zQ w bn bf ng (yhL sz ex fr R D L G gr 1) w1→yC 51 #[v,yi (L+(xm:Int)),.pointer (some ⟨bn,0,none⟩),.pointer (some ⟨bf,0,none⟩)] w1 (Hf w1 cl ng t6)):=fun v w1 h1 h2=>by
      have:=HNum.out (FF) (L+(xm:Int)) v w1 h1 (by omega) h2 (by omega) (by omega);rw[hc1,hc3] at this;exact this
     have F5d:=F5.l (Below.refl _ _).drew;have rvd:=r45.l (Below.refl _ _).drew;clear HNum HWI' HC0 hc1 hc3 exm
     go_wp2_with fail
     go_region_held3 (fun wq=>wq.cell? ⟨bn,0,none⟩=some (.bool ng)) (go_keep) (first
      | (go_at_call 51;refine(HN6.out _ _ rvd F5d).mono ?_;rintro z w6 ⟨s6,rfl,r6,b6,f6⟩;obtain⟨so,sc,hs6⟩:=r6.shape;subst hs6;have F6:=F5d.l b6;replace f6:Hid (Far w.heap.size _):=(fun a n c h=>Nat.le_trans F5d.b.size (f6 a n c h):Far w.heap.size _);have n6:=F6.n.c 0 rfl;obtain⟨q0,q1,q2,q3,q4⟩:=F6.q.cs5;have j0:=F6.q.f 0;have j1:=F6.q.f 1;have j2:=F6.q.f 2;have j3:=F6.q.f 3;have j4:=F6.q.f 4))
     have bu:=((((ag w6 w.heap.size 0 (yi cl)).trans (ag _ w.heap.size 1 (.bool ng))).trans (ag _ w.heap.size 2 (.bool t6.s))).trans (ag _ w.heap.size 3 (yS so t6.n sc))).trans (ag _ w.heap.size 4 (yi t6.e));have cR:au (((((w6.setCell ⟨w.heap.size,0,none⟩ (yi cl)).setCell ⟨w.heap.size,1,none⟩ (.bool ng)).setCell ⟨w.heap.size,2,none⟩ (.bool t6.s)).setCell ⟨w.heap.size,3,none⟩ (yS so t6.n sc)).setCell ⟨w.heap.size,4,none⟩ (yi t6.e)) w.heap.size 49 (yEL cl ng t6 so sc):=(((((F6.q.set 0 (yi cl)).set 1 (.bool ng)).set 2 (.bool t6.s)).set 3 (yS so t6.n sc)).set 4 (yi t6.e));have bR:=bu.below F6.b (Nat.le_refl _);have ov:=cq r6 (Dg.norm_dg _ _ (by omega)) F6.q (fun x hx n hn=>by simp at hx;rcases hx with rfl|rfl|rfl|rfl|rfl<;>simp;all_goals omega)
     have rR:=bu.rd r6 ov;have hl:=run_loadVar_mid (P:=Tryz.prog) _ w.heap.size 0 49 (yEL cl ng t6 so sc) _ cR.range underlying49 rfl (by kernel_rfl);have HH:Hid (_∧_∧_):=⟨hl,rR,bR⟩;clear hl rR bR cR bu
     go_wp2
     obtain⟨hl,rR,bR⟩:=HH.out;exact bodyPost_ret (aj results21 rfl rfl hl) rfl ⟨_,rfl,rR,bR,f6.out⟩
def Gi (n:Int)(s:ByteArray):Bool:=if dF n s=0 then aZ n.toNat s else false
def FV (k:Nat)(ng:Bool)(E FF:Nat):Int:=
 if k=3 then(if E+1=2^exN k then(if FF=2^ (dgN k-1) then 3 else 4) else if 0<E∧FF<2^ (dgN k-1) then 4 else if FF=0 then 1 else 2)
 else if k≤2 then(if E+1=2^exN k then(if FF=0 then 3 else 4) else if FF+(if 0<E then 2^ (dgN k-1) else 0)=0 then 1 else 2)
 else if k≤5 then(if FF=0 then 1 else 2)
 else(if E=0 then(if ng then 5 else 1) else 2)
theorem YC {k:Nat}(hk:1≤k∧k≤8):1≤frN k∧dgN k-1≤63∧ -20000≤lsI k∧lsI k≤0∧1≤wdI (rdN k)∧wdI (rdN k)≤4:=by
 rcases bO hk with rfl|rfl|rfl|rfl|rfl|rfl|rfl|rfl<;>exact⟨by decide,by decide,by decide,by decide,by decide,by decide⟩
theorem KI (k:Nat)(hk:1≤k∧k≤8)(s:ByteArray)(w:World)(hs:s.size=szN k):
  yC 21 #[yi k,.string s] w (JV w (FV k (aZ k s) (aR k s) (aU k s)) (zR k (aZ k s) (aR k s) (aU k s)) (ji k (aZ k s) (aR k s) (aU k s)) (aZ k s)):=by
 obtain⟨h1,h2,h3,h4,-,h7⟩:=fZ hk;obtain⟨g1,g2,g3,g4,g5,g6⟩:=YC hk;have HF:=fun w1=>qU k hk w1
 have HB:=fun w1=>P3 k hk s w1 hs
 have hng:aZ k s=decide (fU (wG k s) 0=1):=by
  unfold aZ;rw[show eH (wG k s) 0 1=fU (wG k s) 0 from by simp[eH]]
 have hE:aR k s=eH (wG k s) 1 (exN k):=rfl;have hFF:aU k s=eH (wG k s) (1+exN k) (frN k):=rfl;generalize aZ k s=ng at*;generalize aR k s=E at*;generalize aU k s=FF at*;generalize wG k s=ts at*
 rcases bO hk with rfl|rfl|rfl|rfl|rfl|rfl|rfl|rfl
 ·unfold FV zR ji
  rw[if_neg (show¬1=3 by decide),if_pos (show 1≤2 by decide),if_neg (show¬1=3 by decide),if_pos (show 1≤2 by decide),if_neg (show¬1=3 by decide),if_pos (show 1≤2 by decide)]
  exact BQ 1 (szN 1) (exN 1) (frN 1) (dgN 1-1) 2 24 (lsI 1) 104 (wdI ((rdN 1:Nat):Int)) true s ts ng E FF w hng hE hFF h1 h2 h7 h3 h4 g1 (by decide) g2 g3 g4 g5 g6 HF HB (fun w1=>eG 2 24 (lsI 1) 104 true w1) (by decide)
 ·unfold FV zR ji
  rw[if_neg (show¬2=3 by decide),if_pos (show 2≤2 by decide),if_neg (show¬2=3 by decide),if_pos (show 2≤2 by decide),if_neg (show¬2=3 by decide),if_pos (show 2≤2 by decide)]
  exact BQ 2 (szN 2) (exN 2) (frN 2) (dgN 2-1) 2 53 (lsI 2) 971 (wdI ((rdN 2:Nat):Int)) true s ts ng E FF w hng hE hFF h1 h2 h7 h3 h4 g1 (by decide) g2 g3 g4 g5 g6 HF HB (fun w1=>eG 2 53 (lsI 2) 971 true w1) (by decide)
 ·unfold FV zR ji
  rw[if_pos (show 3=3 from rfl),if_pos (show 3=3 from rfl),if_pos (show 3=3 from rfl)]
  exact Ll (szN 3) (exN 3) (frN 3) (dgN 3-1) 2 64 (lsI 3) 16320 (wdI ((rdN 3:Nat):Int)) true s ts ng E FF w hng hE hFF h1 h2 h7 h3 h4 g1 (by decide) g2 g3 g4 g5 g6 HF HB (fun w1=>eG 2 64 (lsI 3) 16320 true w1)
 ·unfold FV zR ji
  rw[if_neg (show¬4=3 by decide),if_neg (show¬4≤2 by decide),if_pos (show 4≤5 by decide),if_neg (show¬4=3 by decide),if_neg (show¬4≤2 by decide),if_pos (show 4≤5 by decide),if_neg (show¬4=3 by decide),if_neg (show¬4≤2 by decide),if_pos (show 4≤5 by decide)]
  exact A7 4 (szN 4) (exN 4) (frN 4) (dgN 4-1) 16 6 (lsI 4) 57 (wdI ((rdN 4:Nat):Int)) false s ts ng E FF w hng hE hFF h1 h2 h7 h3 h4 g1 (by decide) g2 g3 g4 g5 g6 HF HB (fun w1=>eG 16 6 (lsI 4) 57 false w1)
 ·unfold FV zR ji
  rw[if_neg (show¬5=3 by decide),if_neg (show¬5≤2 by decide),if_pos (show 5≤5 by decide),if_neg (show¬5=3 by decide),if_neg (show¬5≤2 by decide),if_pos (show 5≤5 by decide),if_neg (show¬5=3 by decide),if_neg (show¬5≤2 by decide),if_pos (show 5≤5 by decide)]
  exact A7 5 (szN 5) (exN 5) (frN 5) (dgN 5-1) 16 14 (lsI 5) 49 (wdI ((rdN 5:Nat):Int)) false s ts ng E FF w hng hE hFF h1 h2 h7 h3 h4 g1 (by decide) g2 g3 g4 g5 g6 HF HB (fun w1=>eG 16 14 (lsI 5) 49 false w1)
 ·unfold FV zR ji
  rw[if_neg (show¬6=3 by decide),if_neg (show¬6≤2 by decide),if_neg (show¬6≤5 by decide),if_neg (show¬6=3 by decide),if_neg (show¬6≤2 by decide),if_neg (show¬6≤5 by decide),if_neg (show¬6=3 by decide),if_neg (show¬6≤2 by decide),if_neg (show¬6≤5 by decide)]
  exact qN 6 (szN 6) (exN 6) (frN 6) (dgN 6-1) 2 24 (lsI 6) 103 (wdI ((rdN 6:Nat):Int)) false s ts ng E FF w hng hE hFF h1 h2 h7 h3 h4 g1 (by decide) g2 g3 g4 g5 g6 HF HB (fun w1=>eG 2 24 (lsI 6) 103 false w1)
 ·unfold FV zR ji
  rw[if_neg (show¬7=3 by decide),if_neg (show¬7≤2 by decide),if_neg (show¬7≤5 by decide),if_neg (show¬7=3 by decide),if_neg (show¬7≤2 by decide),if_neg (show¬7≤5 by decide),if_neg (show¬7=3 by decide),if_neg (show¬7≤2 by decide),if_neg (show¬7≤5 by decide)]
  exact qN 7 (szN 7) (exN 7) (frN 7) (dgN 7-1) 2 56 (lsI 7) 71 (wdI ((rdN 7:Nat):Int)) false s ts ng E FF w hng hE hFF h1 h2 h7 h3 h4 g1 (by decide) g2 g3 g4 g5 g6 HF HB (fun w1=>eG 2 56 (lsI 7) 71 false w1)
 ·unfold FV zR ji
  rw[if_neg (show¬8=3 by decide),if_neg (show¬8≤2 by decide),if_neg (show¬8≤5 by decide),if_neg (show¬8=3 by decide),if_neg (show¬8≤2 by decide),if_neg (show¬8≤5 by decide),if_neg (show¬8=3 by decide),if_neg (show¬8≤2 by decide),if_neg (show¬8≤5 by decide)]
  exact qN 8 (szN 8) (exN 8) (frN 8) (dgN 8-1) 2 53 (lsI 8) 970 (wdI ((rdN 8:Nat):Int)) false s ts ng E FF w hng hE hFF h1 h2 h7 h3 h4 g1 (by decide) g2 g3 g4 g5 g6 HF HB (fun w1=>eG 2 53 (lsI 8) 970 false w1)
theorem YD (k:Nat)(hk:1≤k∧k≤8)(ng:Bool)(E FF:Nat):FV k ng E FF=((dh k ng E FF:Nat):Int):=by
 unfold FV dh;have ho:kp k=2^exN k-1:=rfl;have hp:0<2^exN k:=Nat.pow_pos (by omega);have hd:0<2^ (dgN k-1):=Nat.pow_pos (by omega);have h1:2≤2^exN k:=by
  have h7:=(fZ hk).2.2.2.2.2;have:2^1≤2^exN k:=Nat.pow_le_pow_right (by omega) (by omega);omega
 by_cases h3:k=3
 ·have hd3:2^ (dgN k-1)=2^63:=by rw[h3];rfl
  rw[if_pos h3,if_pos (show k≤3 by omega),ho,hd3,if_pos h3]
  generalize(2:Nat)^exN k=px at*;generalize(2:Nat)^63=p63 at*
  by_cases e0:E=0
  ·rw[if_neg (show¬E+1=px by omega),if_pos e0,if_neg (show¬(0<E∧FF<p63) by omega)]
   split<;>rfl
  ·rw[if_neg e0]
   by_cases e1:E+1=px
   ·rw[if_pos e1,if_pos (show E=px-1 by omega)]
    split<;>rfl
   ·rw[if_neg e1,if_neg (show¬E=px-1 by omega)]
    by_cases ef:FF<p63
    ·rw[if_pos (show 0<E∧FF<p63 by omega),if_pos (show k=3∧FF<p63 from⟨h3,ef⟩)]
     rfl
    ·rw[if_neg (show¬(0<E∧FF<p63) by omega),if_neg (show¬(k=3∧FF<p63) from fun h=>ef h.2),if_neg (show¬FF=0 by omega)]
     rfl
 ·rw[if_neg h3]
  by_cases h2:k≤2
  ·rw[if_pos h2,if_pos (show k≤3 by omega),ho,if_neg h3]
   generalize(2:Nat)^exN k=px at*;generalize(2:Nat)^ (dgN k-1)=pd at*
   by_cases e0:E=0
   ·rw[if_neg (show¬E+1=px by omega),if_pos e0,if_neg (show¬0<E by omega),Nat.add_zero]
    split<;>rfl
   ·rw[if_neg e0]
    by_cases e1:E+1=px
    ·rw[if_pos e1,if_pos (show E=px-1 by omega)]
     split<;>rfl
    ·rw[if_neg e1,if_neg (show¬E=px-1 by omega),if_pos (show 0<E by omega),if_neg (show¬FF+pd=0 by omega),if_neg (show¬(k=3∧FF<2^63) from fun h=>h3 h.1)]
     rfl
  ·rw[if_neg h2,if_neg (show¬k≤3 by omega)]
   by_cases h5:k≤5
   ·rw[if_pos h5,if_pos h5]
    split<;>rfl
   ·rw[if_neg h5,if_neg h5]
    split
    ·split<;>rfl
    ·rfl
theorem xu (n:Int)(s:ByteArray)(w:World):yC 20 #[yi n,.string s] w (yR w (yi (dF n s))):=by
 unfold dF
 by_cases hf:dK n=0
 ·rw[if_pos hf]
  exact T3 n s w hf
 ·rw[if_neg hf]
  obtain⟨h1,h2,h3⟩:=fF hf;obtain⟨k,rfl⟩: ∃k:Nat,n=(k:Int):=⟨n.toNat,h3.symm⟩;rw[Int.toNat_natCast] at h1 h2⊢;have HF:=fun w1=>qU k ⟨h1,h2⟩ w1
  rcases bO ⟨h1,h2⟩ with rfl|rfl|rfl|rfl|rfl|rfl|rfl|rfl
  all_goals exact acZ _ _ _ _ _ _ _ _ _ _ s w HF
theorem mW n (s:ByteArray)(w:World)(h:dF n s=0):
  yC 21 #[yi n,.string s] w (JV w ((bM n s:Nat):Int) (zR n.toNat (aZ n.toNat s) (aR n.toNat s) (aU n.toNat s)) (ji n.toNat (aZ n.toNat s) (aR n.toNat s) (aU n.toNat s)) (Gi n s)):=by
 have hf:dK n≠0:=fun hf=>by
  unfold dF at h;rw[if_pos hf] at h;omega
 have hs:s.size=szN n.toNat:=by
  unfold dF at h;rw[if_neg hf] at h
  by_cases c:s.size=szN n.toNat
  ·exact c
  ·rw[if_neg c] at h
   omega
 obtain⟨h1,h2,h3⟩:=fF hf;have:=KI n.toNat ⟨h1,h2⟩ s w hs;rw[YD _ ⟨h1,h2⟩,h3] at this;unfold bM Gi;rw[if_pos h,if_pos h];exact this
theorem Nu {k:Nat}(hk:1≤k∧k≤8)(ng:Bool)(E F:Nat):zR k ng E F=kt k ng E F:=by
 unfold zR kt dh;have ho:kp k=2^exN k-1:=rfl;have h1:2≤2^exN k:=by
  have h7:=(fZ hk).2.2.2.2.2;have:2^1≤2^exN k:=Nat.pow_le_pow_right (by omega) (by omega);omega
 by_cases h3:k=3
 ·have hd3:2^ (dgN k-1)=2^63:=by rw[h3];rfl
  rw[if_pos h3,if_pos (show k≤3 by omega),ho,hd3,if_pos h3]
  generalize(2:Nat)^exN k=px at*;generalize(2:Nat)^63=p63 at*
  by_cases e0:E=0
  ·rw[if_neg (show¬E+1=px by omega),if_neg (show¬(0<E∧F<p63) by omega),if_pos e0]
   split<;>simp
  ·rw[if_neg e0]
   by_cases e1:E+1=px
   ·rw[if_pos e1,if_pos (show E=px-1 by omega)]
    split<;>simp
   ·rw[if_neg e1,if_neg (show¬E=px-1 by omega)]
    by_cases ef:F<p63
    ·rw[if_pos (show 0<E∧F<p63 by omega),if_pos (show k=3∧F<p63 from⟨h3,ef⟩)]
     simp
    ·rw[if_neg (show¬(0<E∧F<p63) by omega),if_neg (show¬(k=3∧F<p63) from fun h=>ef h.2)]
     simp
 ·rw[if_neg h3]
  by_cases h2:k≤2
  ·rw[if_pos h2,if_pos (show k≤3 by omega),ho,if_neg h3]
   generalize(2:Nat)^exN k=px at*
   by_cases e0:E=0
   ·rw[if_neg (show¬E+1=px by omega),if_pos e0]
    split<;>simp
   ·rw[if_neg e0]
    by_cases e1:E+1=px
    ·rw[if_pos e1,if_pos (show E=px-1 by omega)]
     split<;>simp
    ·rw[if_neg e1,if_neg (show¬E=px-1 by omega),if_neg (show¬(k=3∧F<2^63) from fun h=>h3 h.1)]
     simp
  ·rw[if_neg h2,if_neg (show¬k≤3 by omega)]
   by_cases h5:k≤5
   ·rw[if_pos h5,if_pos h5]
    split<;>simp
   ·rw[if_neg h5,if_neg h5]
    by_cases e0:E=0
    ·rw[if_pos e0,if_pos e0]
     cases ng<;>simp
    ·rw[if_neg e0,if_neg e0]
     simp
theorem qr {s:Bool}{n:Nat}{e:Int}(h:n≠0):(bare ⟨s,n,e⟩).s=s:=by
 unfold bare;rw[if_neg h]
end Go.Proofs.YtpgijbdgljkeeaaGreatDoor

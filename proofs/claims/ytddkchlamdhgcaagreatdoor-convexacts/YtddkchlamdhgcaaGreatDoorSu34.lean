/-
  Texts laid together: Cr5, Cr6, Gq10.
-/
import Derived.Test.YtddkchlamdhgcaaGreatDoorSu21
import Derived.Test.YtddkchlamdhgcaaGreatDoorSu24
import Derived.Test.YtddkchlamdhgcaaGreatDoorSu27
set_option maxRecDepth 100000
set_option maxHeartbeats 12800000
namespace Go.Proofs.YtddkchlamdhgcaaGreatDoor
open _root_.Go.Proofs.Tryz
open Go.RowKit
theorem A7 (n:Int)(sz ex fr lg:Nat)(R D L G wd:Int)(gr:Bool)(s:ByteArray)(ts:List Nat)(ng:Bool)(E FF:Nat)(w:World)
  (hng:ng=decide (fU ts 0=1)) (hE:E=eH ts 1 ex) (hFF:FF=eH ts (1+ex) fr) (hfr:1+ex+fr=8*sz) (hex:ex≤15) (hex7:7≤ex) (hsz:sz≤10) (hfr64:fr≤64) (hfr1:1≤fr) (hD:D=(lg:Int)+1) (hlg:lg≤63) (hL1: -20000≤L) (hL2:L≤0) (hw1:1≤wd) (hw4:wd≤4)
  (HF:yJ 18 #[yi n] (.tuple #[yhV sz ex fr R D L G gr 2,.bool true]))
  (HB: ∀w1,yC 47 #[yi n,.string s] w1 fun z w'=> ∃v,z= .returned v∧jp w' w1.heap.size v (qV ts (8*sz))∧yB w1 w')
  (HWI:yJ 22 #[ygV R D L G gr] (yi wd)):
  yC 20 #[yi n,.string s] w (JV w (if FF=0 then 1 else 2) ng (bare ⟨ng,FF,wd*(L+E)⟩) ng):=by
 have HF':Hid _:=HF;have HB':Hid _:=HB;have HWI':Hid _:=HWI;have hEl:E<32768:=by
  have h1:=gh ts 1 ex;have h2:(2:Nat)^ex≤2^15:=Nat.pow_le_pow_right (by omega) hex;omega
 have hFl:FF<18446744073709551616:=by
  have h1:=gh ts (1+ex) fr;have h2:(2:Nat)^fr≤2^64:=Nat.pow_le_pow_right (by omega) hfr64;omega
 have HM:Hid (_∧_∧_∧_):=⟨hng,hE,hFF,hfr⟩;have b0:=af w (.cells (yoA 0 false false yN 0) 32);have q0:=ah w (yoL 0 false false yN 0) 32;have hDw:IntKind.i64.wrap (D-1)=(lg:Int):=by rw[hD,show lg+1-1=(lg:Int) from by omega];exact IntWalk.i64_in _ ⟨by omega,by omega⟩
 clear HF HB HWI hng hE hFF hfr hD;obtain⟨cl,hcl0⟩: ∃x:Int,(if FF=0 then 1 else 2)=x:=⟨_,rfl⟩
 rw[hcl0];have HC0:Hid _:=hcl0;obtain⟨t6,ht6⟩: ∃t,bare ⟨ng,FF,wd*(L+(E:Int))⟩=t:=⟨_,rfl⟩;rw[ht6];have HT6:Hid _:=ht6;clear hcl0 ht6
 go_enter func20,ntmps20
 go_wp2_with fail
 refine(HF'.out _).mono ?_;rintro z w1 ⟨rfl,b1⟩;have ba:=af w1 (.cells (yhA sz ex fr R D L G gr 2) 51);have f1:=ah w1 (yhL sz ex fr R D L G gr 2) 51;have q1:=(q0.l b1).l ba;have b01:=aa (aa b0 b1) ba;obtain⟨bf,ebf⟩: ∃x,w1.heap.size=x:=⟨_,rfl⟩;have hbf0:w.heap.size<bf:=by rw[←ebf];exact(q0.l b1).lt
 rw[ebf] at f1;clear b0 q0 b1 ba
 go_wp2_with fail
 refine(HB'.out _).mono ?_;rintro z w2 ⟨v2,rfl,own2,b2⟩;obtain⟨hng,hE,hFF,hfr⟩:=HM.out;have hbl:=kS ts (8*sz);obtain⟨g,cap,hv2,hcap,hcapm,hcl⟩:=x9 own2 (by omega);rw[hbl] at hv2 hcap;subst hv2;have hcl': ∀i,i<8*sz→w2.cell? ⟨g,i,none⟩=some (.bool (decide (fU ts i=1))):=fun i hi=>hcl i _ (wW ts _ i hi)
 have c0:=hcl' 0 (by omega);rw[←hng] at c0;have bb:=af w2 (.cells #[.bool ng] 4);have F2:zQ w w2.heap.size bf ng (yhL sz ex fr R D L G gr 2) (w2.alloc (.cells #[.bool ng] 4)):=⟨(q1.l b2).l bb,(f1.l b2).l bb,ah w2 _ _,aa (aa b01 b2) bb⟩;have HCL:Hid (∀i,i<8*sz→(w2.alloc (.cells #[.bool ng] 4)).cell? ⟨g,i,none⟩=some (.bool (decide (fU ts i=1)))):=fun i hi=>cell_later bb (hcl' i hi)
 have hszI:(8*sz:Nat)=(8*sz:Nat):=rfl;have y1:=F2.f.c 1 rfl;clear hcl hcl' own2 b2 q1 f1 b01 bb hng hE hFF hbl hszI;obtain⟨nb,hnb⟩: ∃x,8*sz=x:=⟨_,rfl⟩;rw[hnb] at hcap HCL⊢;have hnb8:8≤nb:=by omega
 have hnbx:1+ex+fr=nb:=by omega
 unfold maxLen at hcapm
 go_wp2
 go_loop [10,11,12] (fun ev ov iv=> ∃(j i x:Nat) (on:Bool),Hid (i=j+1∧x=eH ts 1 j∧on=decide (x+1=2^j))∧i≤ex+1∧x<32768∧ev=yi x∧ov= .bool on∧iv=yi i) (fun _ _ iv=>((ex:Int)+1-intOf iv).toNat)
 case atStart=>exact⟨0,1,0,true,⟨rfl,rfl,rfl⟩,by omega,by omega,rfl,rfl,rfl⟩
 case round=>
  obtain⟨j,i,x,on,HX,hi,hxl,rfl,rfl,rfl⟩:=hrel
  by_cases hlt:i≤ex
  ·obtain⟨hij,hx,hon⟩:=HX.out
   have ci:=HCL.out i (by omega);obtain⟨b,eb⟩: ∃b,decide (fU ts i=1)=b:=⟨_,rfl⟩;rw[eb] at ci;have hbt:=xW ts i;have hsu:eH ts 1 (j+1)=2*x+(if b then 1 else 0):=by
    rw[eH,←hx,show 1+j=i from by omega,←eb]
    by_cases h:fU ts i=1
    ·rw[h];rfl
    ·rw[show fU ts i=0 from by omega];rfl
   have hst:=za (b:=b) hon;have hl1:=gh ts 1 (j+1);have hl2:(2:Nat)^ (j+1)≤2^15:=Nat.pow_le_pow_right (by omega) (by omega);have HS:Hid (_∧_∧_∧_):=⟨hij,hsu,hst,hl1⟩;have hib:i<nb:=by omega
   have hiI:(i:Int)≤(ex:Int):=by omega
   clear hij hx hon eb hbt hsu hst hl1 HX
   cases b<;>cases on
   all_goals go_wp2
   all_goals (obtain⟨hij,hsu,hst,hl1⟩:=HS.out;simp only[Bool.false_eq_true,if_false,if_true] at hsu hst;refine⟨⟨j+1,i+1,eH ts 1 (j+1),_,⟨by omega,rfl,by rw[hsu];exact hst⟩,by omega,by omega,by rw[hsu];first|rfl| (congr 1;done)| (congr 1;omega),rfl,by first|rfl| (congr 1;done)| (congr 1;omega)⟩,by simp only[intOf];omega⟩)
  ·obtain⟨hij,hx,hon⟩:=HX.out
   have hjx:j=ex:=by omega
   obtain⟨hng,hE,hFF,hfr⟩:=HM.out;have hxE:x=E:=by rw[hx,hE,hjx]
   subst hxE;have HON:Hid (on=decide (x+1=2^ex)):=by rw[←hjx];exact hon
   have hdI: ¬((i:Int)≤(ex:Int)):=by omega
   have hv:=fun w1 (h: ∀k,k<fr→w1.cell? ⟨g,1+ex+k,none⟩=some (.bool (decide (fU ts (1+ex+k)=1))))=>pV g (1+ex) fr (cap-(1+ex)) (fun k=>decide (fU ts (1+ex+k)=1)) w1 hfr64 h
   rw[uz,←hFF] at hv;have hvv:=hv _ (fun k hk=>HCL.out (1+ex+k) (by omega))
   have HV:Hid (yC 48 #[.slice (some ⟨g,1+ex,none⟩) fr (cap-(1+ex))] (w2.alloc (.cells #[.bool ng] 4)) (cG (w2.alloc (.cells #[.bool ng] 4)) FF)):=hvv;have HP:Hid (∀w1,yC 13 #[yi lg] w1 (cG w1 (2^lg))):=fun w1=>pf lg (lg/16) (lg % 16) w1 (by omega) (Nat.mod_lt _ (by omega)) (by omega)
   clear hv hvv hij hx hon hjx hng hE hFF hfr HX HCL hdI;have hex1:IntKind.i64.wrap (1+(ex:Int))=((1+ex:Nat):Int):=by rw[show(1:Int)+(ex:Int)=((1+ex:Nat):Int) from by omega];exact IntWalk.i64_in _ ⟨by omega,by omega⟩
   have hei:(ex:Int)< (i:Int):=by omega
   have hsub:nb-(1+ex)=fr:=by omega
   have hce: ¬(1+ex=cap):=by omega
   have hce2: ¬(cap=1+ex):=by omega
   have hce3:1+ex<cap:=by omega
   go_wp2_with fail
   refine Calls.mono HV.out ?_;rintro z w4 ⟨v4,rfl,r4,b4⟩;obtain⟨ao,ca,hv4⟩:=r4.shape;subst hv4;have F4:=F2.l b4;clear F2 HV b4 y1 c0;obtain⟨y0,y1,y2,y3,y4,y5,y6,y7,y8⟩:=F4.f.cs9
   go_wp2_with fail
   refine(HP.out _).mono ?_;rintro z w5 ⟨v5,rfl,r5,b5⟩;obtain⟨lo,lc,hv5⟩:=r5.shape;subst hv5;have F5:=F4.l b5;have r45:=r4.l b5;clear y0 y1 y2 y3 y4 y5 y6 y7 y8 F4 r4 b5 HP;obtain⟨bn,ebn⟩: ∃x,w2.heap.size=x:=⟨_,rfl⟩;rw[ebn] at F5⊢;have hbn0:w.heap.size≠bn:=fun h=>by
    have h1:=F5.q;rw[h] at h1;exact F5.n.ne h1 (.inl (by simp)) rfl
   clear ebn ebf;have HNum:Hid (∀(m:Nat) (p:Int) (v:Value) w1,Rd w1 .i64 v (Dg.dg 65536 m)→m<340282366920938463463374607431768211456→zQ w bn bf ng (yhL sz ex fr R D L G gr 2) w1→ -100000≤p→p≤100000→yC 49 #[v,yi p,.pointer (some ⟨bn,0,none⟩),.pointer (some ⟨bf,0,none⟩)] w1 (Hf w1 (if m=0 then 1 else 2) ng (bare ⟨ng,m,wd*p⟩))):=fun m p v w1 h1 h2 h3 h4 h5=>sL sz ex fr _ _ _ _ _ wd gr ng bn bf m p v w1 h1 h2 (h3.n.c 0 rfl) h3.f hw1 hw4 h4 h5 HWI'.out
   have hLw:IntKind.i64.wrap (L+(x:Int))=L+(x:Int):=IntWalk.i64_in _ ⟨by omega,by omega⟩;have n5:=F5.n.c 0 rfl;obtain⟨y0,y1,y2,y3,y4,y5,y6,y7,y8⟩:=F5.f.cs9;have hnum:=fun w1 h1 h2=>HNum.out FF (L+(x:Int)) (yS ao FF ca) w1 h1 (by omega) h2 (by omega) (by omega)
   rw[HC0.out,HT6.out] at hnum;have HN6:Hid _:=hnum;have F5d:=F5.l (Below.refl _ _).drew;have r5d:=r45.l (Below.refl _ _).drew;clear hnum HNum HWI'
   go_wp2_with fail
   go_region_held3 (fun wq=>wq.cell? ⟨bn,0,none⟩=some (.bool ng)) (go_keep) (first
    | (go_at_call 49;refine(HN6.out _ r5d F5d).mono ?_;rintro z w6 ⟨s6,rfl,r6,b6,f6⟩;obtain⟨so,sc,hs6⟩:=r6.shape;subst hs6;have F6:=F5d.l b6;replace f6:Hid (Far w.heap.size _):=(fun a n c h=>Nat.le_trans F5d.b.size (f6 a n c h):Far w.heap.size _);have n6:=F6.n.c 0 rfl;obtain⟨q0,q1,q2,q3,q4⟩:=F6.q.cs5;have j0:=F6.q.f 0;have j1:=F6.q.f 1;have j2:=F6.q.f 2;have j3:=F6.q.f 3;have j4:=F6.q.f 4))
   have bu:=((((ag w6 w.heap.size 0 (yi cl)).trans (ag _ w.heap.size 1 (.bool ng))).trans (ag _ w.heap.size 2 (.bool t6.s))).trans (ag _ w.heap.size 3 (yS so t6.n sc))).trans (ag _ w.heap.size 4 (yi t6.e));have cR:au (((((w6.setCell ⟨w.heap.size,0,none⟩ (yi cl)).setCell ⟨w.heap.size,1,none⟩ (.bool ng)).setCell ⟨w.heap.size,2,none⟩ (.bool t6.s)).setCell ⟨w.heap.size,3,none⟩ (yS so t6.n sc)).setCell ⟨w.heap.size,4,none⟩ (yi t6.e)) w.heap.size 32 (yoL cl ng t6.s (yS so t6.n sc) t6.e):=(((((F6.q.set 0 (yi cl)).set 1 (.bool ng)).set 2 (.bool t6.s)).set 3 (yS so t6.n sc)).set 4 (yi t6.e));have bR:=bu.below F6.b (Nat.le_refl _);have ov:=cq r6 (Dg.norm_dg _ _ (by omega)) F6.q (fun x hx n hn=>by simp at hx;rcases hx with rfl|rfl|rfl|rfl|rfl<;>simp;all_goals omega)
   have rR:=bu.rd r6 ov;have hl:=run_loadVar_mid (P:=Tryz.prog) _ w.heap.size 0 32 (yoL cl ng t6.s (yS so t6.n sc) t6.e) _ cR.range underlying32 rfl (by kernel_rfl);have HH:Hid (_∧_∧_):=⟨hl,rR,bR⟩;clear hl rR bR cR bu
   go_wp2
   obtain⟨hl,rR,bR⟩:=HH.out;exact bodyPost_ret (aj results20 rfl rfl hl) rfl ⟨_,rfl,rR,bR,f6.out⟩
theorem qN (n:Int)(sz ex fr lg:Nat)(R D L G wd:Int)(gr:Bool)(s:ByteArray)(ts:List Nat)(ng:Bool)(E FF:Nat)(w:World)
  (hng:ng=decide (fU ts 0=1)) (hE:E=eH ts 1 ex) (hFF:FF=eH ts (1+ex) fr) (hfr:1+ex+fr=8*sz) (hex:ex≤15) (hex7:7≤ex) (hsz:sz≤10) (hfr64:fr≤64) (hfr1:1≤fr) (hD:D=(lg:Int)+1) (hlg:lg≤63) (hL1: -20000≤L) (hL2:L≤0) (hw1:1≤wd) (hw4:wd≤4)
  (HF:yJ 18 #[yi n] (.tuple #[yhV sz ex fr R D L G gr 3,.bool true]))
  (HB: ∀w1,yC 47 #[yi n,.string s] w1 fun z w'=> ∃v,z= .returned v∧jp w' w1.heap.size v (qV ts (8*sz))∧yB w1 w')
  (HWI:yJ 22 #[ygV R D L G gr] (yi wd)):
  yC 20 #[yi n,.string s] w (JV w (if E=0 then(if ng then 5 else 1) else 2) (if E=0 then false else ng) (if E=0 then⟨false,0,0⟩ else bare ⟨ng,FF+2^lg,wd*(L+(E:Int)-1)⟩) ng):=by
 have HF':Hid _:=HF;have HB':Hid _:=HB;have HWI':Hid _:=HWI;have hEl:E<32768:=by
  have h1:=gh ts 1 ex;have h2:(2:Nat)^ex≤2^15:=Nat.pow_le_pow_right (by omega) hex;omega
 have hFl:FF<18446744073709551616:=by
  have h1:=gh ts (1+ex) fr;have h2:(2:Nat)^fr≤2^64:=Nat.pow_le_pow_right (by omega) hfr64;omega
 have HM:Hid (_∧_∧_∧_):=⟨hng,hE,hFF,hfr⟩;have b0:=af w (.cells (yoA 0 false false yN 0) 32);have q0:=ah w (yoL 0 false false yN 0) 32;have hDw:IntKind.i64.wrap (D-1)=(lg:Int):=by rw[hD,show lg+1-1=(lg:Int) from by omega];exact IntWalk.i64_in _ ⟨by omega,by omega⟩
 clear HF HB HWI hng hE hFF hfr hD;obtain⟨cl,hcl0⟩: ∃x:Int,(if E=0 then(if ng then 5 else 1) else 2)=x:=⟨_,rfl⟩
 obtain⟨gg,hgg0⟩: ∃x:Bool,(if E=0 then false else ng)=x:=⟨_,rfl⟩
 obtain⟨t6,ht6⟩: ∃t,(if E=0 then⟨false,0,0⟩ else bare ⟨ng,FF+2^lg,wd*(L+(E:Int)-1)⟩)=t:=⟨_,rfl⟩
 rw[hcl0,hgg0,ht6];have HC0:Hid (_∧_∧_):=⟨hcl0,hgg0,ht6⟩;clear hcl0 hgg0 ht6
 go_enter func20,ntmps20
 go_wp2_with fail
 refine(HF'.out _).mono ?_;rintro z w1 ⟨rfl,b1⟩;have ba:=af w1 (.cells (yhA sz ex fr R D L G gr 3) 51);have f1:=ah w1 (yhL sz ex fr R D L G gr 3) 51;have q1:=(q0.l b1).l ba;have b01:=aa (aa b0 b1) ba;obtain⟨bf,ebf⟩: ∃x,w1.heap.size=x:=⟨_,rfl⟩;have hbf0:w.heap.size<bf:=by rw[←ebf];exact(q0.l b1).lt
 rw[ebf] at f1;clear b0 q0 b1 ba
 go_wp2_with fail
 refine(HB'.out _).mono ?_;rintro z w2 ⟨v2,rfl,own2,b2⟩;obtain⟨hng,hE,hFF,hfr⟩:=HM.out;have hbl:=kS ts (8*sz);obtain⟨g,cap,hv2,hcap,hcapm,hcl⟩:=x9 own2 (by omega);rw[hbl] at hv2 hcap;subst hv2;have hcl': ∀i,i<8*sz→w2.cell? ⟨g,i,none⟩=some (.bool (decide (fU ts i=1))):=fun i hi=>hcl i _ (wW ts _ i hi)
 have c0:=hcl' 0 (by omega);rw[←hng] at c0;have bb:=af w2 (.cells #[.bool ng] 4);have F2:zQ w w2.heap.size bf ng (yhL sz ex fr R D L G gr 3) (w2.alloc (.cells #[.bool ng] 4)):=⟨(q1.l b2).l bb,(f1.l b2).l bb,ah w2 _ _,aa (aa b01 b2) bb⟩;have HCL:Hid (∀i,i<8*sz→(w2.alloc (.cells #[.bool ng] 4)).cell? ⟨g,i,none⟩=some (.bool (decide (fU ts i=1)))):=fun i hi=>cell_later bb (hcl' i hi)
 have hszI:(8*sz:Nat)=(8*sz:Nat):=rfl;have y1:=F2.f.c 1 rfl;clear hcl hcl' own2 b2 q1 f1 b01 bb hng hE hFF hbl hszI;obtain⟨nb,hnb⟩: ∃x,8*sz=x:=⟨_,rfl⟩;rw[hnb] at hcap HCL⊢;have hnb8:8≤nb:=by omega
 have hnbx:1+ex+fr=nb:=by omega
 unfold maxLen at hcapm
 go_wp2
 go_loop [10,11,12] (fun ev ov iv=> ∃(j i x:Nat) (on:Bool),Hid (i=j+1∧x=eH ts 1 j∧on=decide (x+1=2^j))∧i≤ex+1∧x<32768∧ev=yi x∧ov= .bool on∧iv=yi i) (fun _ _ iv=>((ex:Int)+1-intOf iv).toNat)
 case atStart=>exact⟨0,1,0,true,⟨rfl,rfl,rfl⟩,by omega,by omega,rfl,rfl,rfl⟩
 case round=>
  obtain⟨j,i,x,on,HX,hi,hxl,rfl,rfl,rfl⟩:=hrel
  by_cases hlt:i≤ex
  ·obtain⟨hij,hx,hon⟩:=HX.out
   have ci:=HCL.out i (by omega);obtain⟨b,eb⟩: ∃b,decide (fU ts i=1)=b:=⟨_,rfl⟩;rw[eb] at ci;have hbt:=xW ts i;have hsu:eH ts 1 (j+1)=2*x+(if b then 1 else 0):=by
    rw[eH,←hx,show 1+j=i from by omega,←eb]
    by_cases h:fU ts i=1
    ·rw[h];rfl
    ·rw[show fU ts i=0 from by omega];rfl
   have hst:=za (b:=b) hon;have hl1:=gh ts 1 (j+1);have hl2:(2:Nat)^ (j+1)≤2^15:=Nat.pow_le_pow_right (by omega) (by omega);have HS:Hid (_∧_∧_∧_):=⟨hij,hsu,hst,hl1⟩;have hib:i<nb:=by omega
   have hiI:(i:Int)≤(ex:Int):=by omega
   clear hij hx hon eb hbt hsu hst hl1 HX
   cases b<;>cases on
   all_goals go_wp2
   all_goals (obtain⟨hij,hsu,hst,hl1⟩:=HS.out;simp only[Bool.false_eq_true,if_false,if_true] at hsu hst;refine⟨⟨j+1,i+1,eH ts 1 (j+1),_,⟨by omega,rfl,by rw[hsu];exact hst⟩,by omega,by omega,by rw[hsu];first|rfl| (congr 1;done)| (congr 1;omega),rfl,by first|rfl| (congr 1;done)| (congr 1;omega)⟩,by simp only[intOf];omega⟩)
  ·obtain⟨hij,hx,hon⟩:=HX.out
   have hjx:j=ex:=by omega
   obtain⟨hng,hE,hFF,hfr⟩:=HM.out;have hxE:x=E:=by rw[hx,hE,hjx]
   subst hxE;have HON:Hid (on=decide (x+1=2^ex)):=by rw[←hjx];exact hon
   have hdI: ¬((i:Int)≤(ex:Int)):=by omega
   have hv:=fun w1 (h: ∀k,k<fr→w1.cell? ⟨g,1+ex+k,none⟩=some (.bool (decide (fU ts (1+ex+k)=1))))=>pV g (1+ex) fr (cap-(1+ex)) (fun k=>decide (fU ts (1+ex+k)=1)) w1 hfr64 h
   rw[uz,←hFF] at hv;have hvv:=hv _ (fun k hk=>HCL.out (1+ex+k) (by omega))
   have HV:Hid (yC 48 #[.slice (some ⟨g,1+ex,none⟩) fr (cap-(1+ex))] (w2.alloc (.cells #[.bool ng] 4)) (cG (w2.alloc (.cells #[.bool ng] 4)) FF)):=hvv;have HP:Hid (∀w1,yC 13 #[yi lg] w1 (cG w1 (2^lg))):=fun w1=>pf lg (lg/16) (lg % 16) w1 (by omega) (Nat.mod_lt _ (by omega)) (by omega)
   clear hv hvv hij hx hon hjx hng hE hFF hfr HX HCL hdI;have hex1:IntKind.i64.wrap (1+(ex:Int))=((1+ex:Nat):Int):=by rw[show(1:Int)+(ex:Int)=((1+ex:Nat):Int) from by omega];exact IntWalk.i64_in _ ⟨by omega,by omega⟩
   have hei:(ex:Int)< (i:Int):=by omega
   have hsub:nb-(1+ex)=fr:=by omega
   have hce: ¬(1+ex=cap):=by omega
   have hce2: ¬(cap=1+ex):=by omega
   have hce3:1+ex<cap:=by omega
   go_wp2_with fail
   refine Calls.mono HV.out ?_;rintro z w4 ⟨v4,rfl,r4,b4⟩;obtain⟨ao,ca,hv4⟩:=r4.shape;subst hv4;have F4:=F2.l b4;clear F2 HV b4 y1 c0;obtain⟨y0,y1,y2,y3,y4,y5,y6,y7,y8⟩:=F4.f.cs9
   go_wp2_with fail
   refine(HP.out _).mono ?_;rintro z w5 ⟨v5,rfl,r5,b5⟩;obtain⟨lo,lc,hv5⟩:=r5.shape;subst hv5;have F5:=F4.l b5;have r45:=r4.l b5;clear y0 y1 y2 y3 y4 y5 y6 y7 y8 F4 r4 b5 HP;obtain⟨bn,ebn⟩: ∃x,w2.heap.size=x:=⟨_,rfl⟩;rw[ebn] at F5⊢;have hbn0:w.heap.size≠bn:=fun h=>by
    have h1:=F5.q;rw[h] at h1;exact F5.n.ne h1 (.inl (by simp)) rfl
   clear ebn ebf;have HNum:Hid (∀(m:Nat) (p:Int) (v:Value) w1,Rd w1 .i64 v (Dg.dg 65536 m)→m<340282366920938463463374607431768211456→zQ w bn bf ng (yhL sz ex fr R D L G gr 3) w1→ -100000≤p→p≤100000→yC 49 #[v,yi p,.pointer (some ⟨bn,0,none⟩),.pointer (some ⟨bf,0,none⟩)] w1 (Hf w1 (if m=0 then 1 else 2) ng (bare ⟨ng,m,wd*p⟩))):=fun m p v w1 h1 h2 h3 h4 h5=>sL sz ex fr _ _ _ _ _ wd gr ng bn bf m p v w1 h1 h2 (h3.n.c 0 rfl) h3.f hw1 hw4 h4 h5 HWI'.out
   have hLw:IntKind.i64.wrap (L+(x:Int))=L+(x:Int):=IntWalk.i64_in _ ⟨by omega,by omega⟩;have n5:=F5.n.c 0 rfl;obtain⟨y0,y1,y2,y3,y4,y5,y6,y7,y8⟩:=F5.f.cs9;have hpl:2^lg≤2^63:=Nat.pow_le_pow_right (by omega) hlg;have hpp:0<2^lg:=Nat.pow_pos (by omega);obtain⟨pl,epl⟩: ∃y,2^lg=y:=⟨_,rfl⟩;rw[epl] at r5 hpl hpp HC0⊢;clear epl;obtain⟨hc1,hc2,hc3⟩:=HC0.out
   by_cases hx0:x=0
   ·rw[if_pos hx0] at hc1 hc2 hc3
    subst hc2 hc3 hx0;clear HNum HWI' HC0
    cases ng
    ·simp only[Bool.false_eq_true,if_false] at hc1
     subst hc1;have F5d:=F5.l (Below.refl _ _).drew;have rR:=aN (((((w5.setCell ⟨w.heap.size,0,none⟩ (yi 1)).setCell ⟨w.heap.size,1,none⟩ (.bool false)).setCell ⟨w.heap.size,2,none⟩ (.bool false)).setCell ⟨w.heap.size,3,none⟩ yN).setCell ⟨w.heap.size,4,none⟩ (yi 0)).drew .i64;have bu:=((((ag w5 w.heap.size 0 (yi 1)).trans (ag _ w.heap.size 1 (.bool false))).trans (ag _ w.heap.size 2 (.bool false))).trans (ag _ w.heap.size 3 yN)).trans (ag _ w.heap.size 4 (yi 0));have cR:au (((((w5.setCell ⟨w.heap.size,0,none⟩ (yi 1)).setCell ⟨w.heap.size,1,none⟩ (.bool false)).setCell ⟨w.heap.size,2,none⟩ (.bool false)).setCell ⟨w.heap.size,3,none⟩ yN).setCell ⟨w.heap.size,4,none⟩ (yi 0)).drew w.heap.size 32 (yoL 1 false false yN 0):=((((((F5.q.set 0 (yi 1)).set 1 (.bool false)).set 2 (.bool false)).set 3 yN).set 4 (yi 0))).drew;have bR:=(bu.below F5.b (Nat.le_refl _)).drew;have hl:=run_loadVar_mid (P:=Tryz.prog) _ w.heap.size 0 32 (yoL 1 false false yN 0) _ cR.range underlying32 rfl (by kernel_rfl);have HH:Hid (_∧_∧_):=⟨hl,rR,bR⟩;obtain⟨q0,q1,q2,q3,q4⟩:=F5d.q.cs5;have j0:=F5d.q.f 0;have j1:=F5d.q.f 1;have j2:=F5d.q.f 2;have j3:=F5d.q.f 3;have j4:=F5d.q.f 4;obtain⟨qx0,qx1,qx2,qx3,qx4⟩:=F5.q.cs5;have jx0:=F5.q.f 0;have jx1:=F5.q.f 1;have jx2:=F5.q.f 2;have jx3:=F5.q.f 3;have jx4:=F5.q.f 4;have n5d:=F5d.n.c 0 rfl;clear hl rR bR cR bu F5d F5
     go_wp2_with fail
     go_region_held3 (fun wq=>wq.cell? ⟨bn,0,none⟩=some (.bool false)) (go_keep) (first|fail)
     all_goals go_wp2
     all_goals (obtain⟨hl,rR,bR⟩:=HH.out;exact bodyPost_ret (aj results20 rfl rfl hl) rfl ⟨_,rfl,rR,bR,lO _⟩)
    ·simp only[if_true] at hc1
     subst hc1;have F5d:=F5.l (Below.refl _ _).drew;have rR:=aN (((((w5.setCell ⟨w.heap.size,0,none⟩ (yi 5)).setCell ⟨w.heap.size,1,none⟩ (.bool false)).setCell ⟨w.heap.size,2,none⟩ (.bool false)).setCell ⟨w.heap.size,3,none⟩ yN).setCell ⟨w.heap.size,4,none⟩ (yi 0)).drew .i64;have bu:=((((ag w5 w.heap.size 0 (yi 5)).trans (ag _ w.heap.size 1 (.bool false))).trans (ag _ w.heap.size 2 (.bool false))).trans (ag _ w.heap.size 3 yN)).trans (ag _ w.heap.size 4 (yi 0));have cR:au (((((w5.setCell ⟨w.heap.size,0,none⟩ (yi 5)).setCell ⟨w.heap.size,1,none⟩ (.bool false)).setCell ⟨w.heap.size,2,none⟩ (.bool false)).setCell ⟨w.heap.size,3,none⟩ yN).setCell ⟨w.heap.size,4,none⟩ (yi 0)).drew w.heap.size 32 (yoL 5 false false yN 0):=((((((F5.q.set 0 (yi 5)).set 1 (.bool false)).set 2 (.bool false)).set 3 yN).set 4 (yi 0))).drew;have bR:=(bu.below F5.b (Nat.le_refl _)).drew;have hl:=run_loadVar_mid (P:=Tryz.prog) _ w.heap.size 0 32 (yoL 5 false false yN 0) _ cR.range underlying32 rfl (by kernel_rfl);have HH:Hid (_∧_∧_):=⟨hl,rR,bR⟩;obtain⟨q0,q1,q2,q3,q4⟩:=F5d.q.cs5;have j0:=F5d.q.f 0;have j1:=F5d.q.f 1;have j2:=F5d.q.f 2;have j3:=F5d.q.f 3;have j4:=F5d.q.f 4;obtain⟨qx0,qx1,qx2,qx3,qx4⟩:=F5.q.cs5;have jx0:=F5.q.f 0;have jx1:=F5.q.f 1;have jx2:=F5.q.f 2;have jx3:=F5.q.f 3;have jx4:=F5.q.f 4;have n5d:=F5d.n.c 0 rfl;clear hl rR bR cR bu F5d F5
     go_wp2_with fail
     go_region_held3 (fun wq=>wq.cell? ⟨bn,0,none⟩=some (.bool true)) (go_keep) (first|fail)
     all_goals go_wp2
     all_goals (obtain⟨hl,rR,bR⟩:=HH.out;exact bodyPost_ret (aj results20 rfl rfl hl) rfl ⟨_,rfl,rR,bR,lO _⟩)
   ·rw[if_neg hx0] at hc1 hc2 hc3
    subst hc1 hc2;have hxI:((x:Int)==0)=false:=by simp;omega
    have hLw2:IntKind.i64.wrap (L+(x:Int)-1)=L+(x:Int)-1:=IntWalk.i64_in _ ⟨by omega,by omega⟩;have F5d:=F5.l (Below.refl _ _).drew;have r4d:=r45.l (Below.refl _ _).drew;have r5d:=r5.l (Below.refl _ _).drew;have hlF:(Dg.dg 65536 FF).length≤4:=Dg.dg_len_le 65536 FF 4 (by omega) (by omega);have hlP:(Dg.dg 65536 pl).length≤4:=Dg.dg_len_le 65536 pl 4 (by omega) (by omega);have HPl:Hid (∀w1,Rd w1 .i64 (yS ao FF ca) (Dg.dg 65536 FF)→Rd w1 .i64 (yS lo pl lc) (Dg.dg 65536 pl)→yC 40 #[yS ao FF ca,yS lo pl lc] w1 (cG w1 (FF+pl))):=fun w1 h1 h2=>by
     have:=ew _ _ _ _ w1 h1 h2 (Dg.small_dg 65536 FF (by omega)) (Dg.small_dg 65536 pl (by omega)) (Dg.norm_dg 65536 FF (by omega)) (Dg.norm_dg 65536 pl (by omega)) (by omega) (by omega);rw[Dg.vl_dg 65536 FF (by omega),Dg.vl_dg 65536 pl (by omega)] at this;exact this
    have HN6:Hid (∀v w1,Rd w1 .i64 v (Dg.dg 65536 (FF+pl))→zQ w bn bf ng (yhL sz ex fr R D L G gr 3) w1→yC 49 #[v,yi (L+(x:Int)-1),.pointer (some ⟨bn,0,none⟩),.pointer (some ⟨bf,0,none⟩)] w1 (Hf w1 2 ng t6)):=fun v w1 h1 h2=>by
     have:=HNum.out (FF+pl) (L+(x:Int)-1) v w1 h1 (by omega) h2 (by omega) (by omega);rw[if_neg (by omega),hc3] at this;exact this
    clear HNum HWI' HC0 hc3
    go_wp2_with fail
    go_region_held3 (fun wq=>wq.cell? ⟨bn,0,none⟩=some (.bool ng)) (go_keep) (first
     | (go_at_call 40;refine(HPl.out _ r4d r5d).mono ?_;rintro z wp ⟨vp,rfl,rp,bp⟩;obtain⟨po,pc,hvp⟩:=rp.shape;subst hvp;have Fp:=F5d.l bp;have np:=Fp.n.c 0 rfl)
     | (go_at_call 49;refine(HN6.out _ _ rp Fp).mono ?_;rintro z w6 ⟨s6,rfl,r6,b6,f6⟩;obtain⟨so,sc,hs6⟩:=r6.shape;subst hs6;have F6:=Fp.l b6;replace f6:Hid (Far w.heap.size _):=(fun a n c h=>Nat.le_trans Fp.b.size (f6 a n c h):Far w.heap.size _);have n6:=F6.n.c 0 rfl;obtain⟨q0,q1,q2,q3,q4⟩:=F6.q.cs5;have j0:=F6.q.f 0;have j1:=F6.q.f 1;have j2:=F6.q.f 2;have j3:=F6.q.f 3;have j4:=F6.q.f 4))
    have bu:=((((ag w6 w.heap.size 0 (yi 2)).trans (ag _ w.heap.size 1 (.bool ng))).trans (ag _ w.heap.size 2 (.bool t6.s))).trans (ag _ w.heap.size 3 (yS so t6.n sc))).trans (ag _ w.heap.size 4 (yi t6.e));have cR:au (((((w6.setCell ⟨w.heap.size,0,none⟩ (yi 2)).setCell ⟨w.heap.size,1,none⟩ (.bool ng)).setCell ⟨w.heap.size,2,none⟩ (.bool t6.s)).setCell ⟨w.heap.size,3,none⟩ (yS so t6.n sc)).setCell ⟨w.heap.size,4,none⟩ (yi t6.e)) w.heap.size 32 (yoL 2 ng t6.s (yS so t6.n sc) t6.e):=(((((F6.q.set 0 (yi 2)).set 1 (.bool ng)).set 2 (.bool t6.s)).set 3 (yS so t6.n sc)).set 4 (yi t6.e));have bR:=bu.below F6.b (Nat.le_refl _);have ov:=cq r6 (Dg.norm_dg _ _ (by omega)) F6.q (fun x hx n hn=>by simp at hx;rcases hx with rfl|rfl|rfl|rfl|rfl<;>simp;all_goals omega)
    have rR:=bu.rd r6 ov;have hl:=run_loadVar_mid (P:=Tryz.prog) _ w.heap.size 0 32 (yoL 2 ng t6.s (yS so t6.n sc) t6.e) _ cR.range underlying32 rfl (by kernel_rfl);have HH:Hid (_∧_∧_):=⟨hl,rR,bR⟩;clear hl rR bR cR bu
    go_wp2
    obtain⟨hl,rR,bR⟩:=HH.out;exact bodyPost_ret (aj results20 rfl rfl hl) rfl ⟨_,rfl,rR,bR,f6.out⟩
theorem roundTo_long (R D L G:Int)(gr qs:Bool)(no:Option Addr)(nc:Nat)(eo:Option Addr)(ec:Nat)(N M:Nat)(E way:Int)(w:World)(hR:R=2)(hD:D=17000)(hL:L=0)(hG:G=17000)(hway:iC way=true)
  (ha:Rd w .i64 (yS no N nc) (Dg.dg 65536 N)) (hb:Rd w .i64 (yS eo M ec) (Dg.dg 65536 M)) (hla:(Dg.dg 65536 N).length≤20000) (hlb:(Dg.dg 65536 M).length≤20000) (hN:N≠0) (hM:M≠0) (e1: -100000≤E) (e2:E≤100000) (s1: -100000≤(bitLen N:Int)-(bitLen M:Int)+E) (s2:(bitLen N:Int)-(bitLen M:Int)+E≤100000):
  yC 9 #[yrV qs (yS no N nc) (yS eo M ec) E,ygV R D L G gr,yi way] w (GT w (cI R D L G gr qs N M E way)):=by
 have d1:1≤D:=by omega
 have lg:L≤G:=by omega
 have hbn:=vR hla;have hbm:=vR hlb;have hs:=Ve R D N M E;have hst:=Pc R D E (bitLen N) (bitLen M) (by omega);have hK1: -400000≤aT R D (dY N M E):=by
  have: -350000≤dY N M E:=by unfold dY;split<;>omega
  unfold aT ai
  split<;>simp<;>omega
 have hk0:((bitLen N:Int)-(bitLen M:Int)+E)/(ai R:Int)-D+2≤400000:=by
  unfold ai
  split<;>simp<;>omega
 have hwn:=eN R;have hWK: ∀k,aT R D (dY N M E)≤k→k≤((bitLen N:Int)-(bitLen M:Int)+E)/(ai R:Int)-D+2→ -360000≤(ai R:Int)*k∧(ai R:Int)*k≤360000:=fun k h1 h2=>
  seek_long hR hD h1 h2 (by unfold dY;split<;>omega) (by omega)
 have hNM: ∀n:Int,n≤900000→(Dg.dg 65536 (eZ N n)).length≤160000:=fun n h=>GB (Nat.le_trans hla (by omega)) h
 have hDM: ∀n:Int,-900000≤n→(Dg.dg 65536 (dX M n)).length≤160000:=fun n h=>GC (Nat.le_trans hlb (by omega)) h
 have hcr: -360000≤(ai R:Int)*dj R D L gr N M E∧(ai R:Int)*dj R D L gr N M E≤360000∧ -400000≤dj R D L gr N M E∧dj R D L gr N M E≤400000:=by
  by_cases h:(decide (aT R D (dY N M E)<L)&&gr)=true
  ·rw[CJ h]
   refine⟨?_, ?_,by omega,by omega⟩<;>(clear hWK hs hst hK1 hk0;unfold ai;split<;>simp<;>omega)
  ·rw[Gu (by simpa using h)]
   have:=hWK _ (Int.le_refl _) (by omega);exact⟨this.1,this.2,hK1,by omega⟩
 have hq:(Dg.dg 65536 (cH R D L gr N M E)).length≤160000:=KT 65536 _ _ _ (by omega) (Nat.div_le_self _ _) (hNM _ (by unfold shP;omega));have hY0:0<dX M (shP R D L gr N M E):=N8 _ (Nat.pos_of_ne_zero hM);have hr:(Dg.dg 65536 (gF R D L gr N M E)).length≤160000:=KT 65536 _ _ _ (by omega) (Nat.le_of_lt (Nat.mod_lt _ hY0)) (hDM _ (by unfold shP;omega));have hDc:=EN R D (by omega);have hDc1:=EN R (D-1) (by omega);have hw1:ai R=1:=by
  rw[hR];rfl
 have hpow:ai R*(D-1).toNat≤16999:=by
  rw[hw1];omega
 have hm1:(ai R:Int)*(D-1)≤16999:=by omega
 have hm2:(ai R:Int)*D≤17000:=by
  rw[hw1];omega
 have hm3:0≤(ai R:Int)*D:=by omega
 have a1:=Int.natAbs_tdiv_le_natAbs ((bitLen N:Int)-(bitLen M:Int)+E+800000) (ai R);have a2:=Int.natAbs_tdiv_le_natAbs (800000:Int) (ai R);refine ZY R D L G gr qs no _ nc eo _ ec E way (ai R) (bitLen N) (bitLen M) (((bitLen N:Int)-(bitLen M:Int)+E+800000).tdiv (ai R)) ((800000:Int).tdiv (ai R)) (aT R D (dY N M E)) (((bitLen N:Int)-(bitLen M:Int)+E)/(ai R:Int)-D+2) (dj R D L gr N M E)
  (fun k=>eZ N (E-(ai R:Int)*k)/dX M (E-(ai R:Int)*k)) (fun k=>eZ N (E-(ai R:Int)*k) % dX M (E-(ai R:Int)*k)) (fun k=>dX M (E-(ai R:Int)*k)) (fun k=>bitLen (eZ N (E-(ai R:Int)*k)/dX M (E-(ai R:Int)*k)))
  (cH R D L gr N M E) (gF R D L gr N M E) (dX M (shP R D L gr N M E)) (bitLen (cH R D L gr N M E+1)) (dm ((gF R D L gr N M E*2:Nat):Int) ((dX M (shP R D L gr N M E):Nat):Int)) (decide (cH R D L gr N M E % 2=1)) (rf R D L gr qs N M E way) (decide (aT R D (dY N M E)<L)) (decide (gF R D L gr N M E=0)) (decide (aT R D (dY N M E)<L)&&gr) (decide (ai R*D.toNat<bitLen (cH R D L gr N M E+1)))
  (io R D (fM R D L gr qs N M E way)) (gD R D (fM R D L gr qs N M E way) (dj R D L gr N M E)) (cI R D L G gr qs N M E way) w ?_ ?_ ?_ (Int.le_of_lt hs) ?_ ?_ ?_ rfl rfl ?_ ?_ ?_ ?_ ?_ ?_ ?_ ?_ ?_ ?_ ?_ ?_ rfl rfl rfl rfl CJ ?_ ?_ ?_ ?_ ?_ ?_ ?_ ?_ (kJ gr qs N M E way d1 lg hN hM) ?_ ?_ ?_ ?_ ?_ ?_ ?_ ?_ ?_ ?_ ?_ ?_
 ·simp
  rw[Dg.dg_nil_iff _ _ (by omega)];exact hN
 ·simp
  omega
 ·omega
 ·exact IntWalk.i64_in _ ⟨by omega,by omega⟩
 ·exact IntWalk.i64_in _ ⟨by omega,by omega⟩
 ·exact IntWalk.i64_in _ ⟨by omega,by omega⟩
 ·exact IntWalk.i64_in _ ⟨by omega,by omega⟩
 ·exact IntWalk.i64_in _ ⟨by omega,by omega⟩
 ·exact IntWalk.i64_in _ ⟨by omega,by omega⟩
 ·exact IntWalk.i64_in _ ⟨by omega,by omega⟩
 ·rw[hst]
  exact IntWalk.i64_in _ ⟨by omega,by omega⟩
 ·intro k h1 h2
  have:=hWK k h1 h2;exact⟨IntWalk.i64_in _ ⟨by omega,by omega⟩,IntWalk.i64_in _ ⟨by omega,by omega⟩⟩
 ·have:=CU (R:=R) (k:=L) (a:=17000) (by omega) (by omega)
  exact IntWalk.i64_in _ ⟨by omega,by omega⟩
 ·exact IntWalk.i64_in _ ⟨by omega,by omega⟩
 ·exact IntWalk.i64_in _ ⟨by omega,by omega⟩
 ·exact IntWalk.i64_in _ ⟨by omega,by omega⟩
 ·exact IntWalk.i64_in _ ⟨by omega,by omega⟩
 ·exact IntWalk.i64_in _ ⟨by omega,by omega⟩
 ·intro h
  have e:=Gu h;refine⟨e, ?_, ?_, ?_⟩
  ·unfold cH shP
   rw[e]
  ·unfold gF shP
   rw[e]
  ·unfold shP
   rw[e]
 ·intro k h1 h2
  have:=(xx R D k N M E d1 hN hM).2 h1;omega
 ·have:=mt (xx R D (aT R D (dY N M E)) N M E d1 hN hM).1 (Int.lt_irrefl _)
  omega
 ·intro h
  have:=of_decide_eq_true h;omega
 ·intro h
  have:=of_decide_eq_false h;omega
 ·intro h1 h2 h3
  rw[KS h1 h2];exact if_pos ((Ga R D L gr N M E d1 hN hM).1 (of_decide_eq_true h3))
 ·intro h1 h2 h3
  have h4: ¬cH R D L gr N M E+1=2^ (ai R*D.toNat):=fun c=>of_decide_eq_false h3 ((Ga R D L gr N M E d1 hN hM).2 c)
  rw[KS h1 h2];exact⟨if_neg h4,if_neg h4⟩
 ·intro h
  rw[ZF h];exact uh R D L gr N M E d1 hN hM _
 ·intro w1
  have:=nh R D L G gr w1
  rwa [jf] at this
 ·intro w1 b
  exact pQ _ N w1 (ha.l b) (by omega)
 ·intro w1 b
  exact pQ _ M w1 (hb.l b) (by omega)
 ·intro k w1 h1 h2 b
  have:=hWK k h1 h2;exact BM qs no _ nc eo _ ec N M E _ w1 (ha.l b) (hb.l b) (by omega) (by omega) (Nat.pos_of_ne_zero hM) (by omega) (by omega)
 ·intro h w1 b
  have:=BM qs no _ nc eo _ ec N M E ((ai R:Int)*dj R D L gr N M E) w1 (ha.l b) (hb.l b) (by omega) (by omega) (Nat.pos_of_ne_zero hM) (by omega) (by omega);rw[show E-(ai R:Int)*dj R D L gr N M E=shP R D L gr N M E from rfl,CJ h] at this
  exact this
 ·intro k v w1 h1 h2 r
  have:=hWK k h1 h2;exact pQ v _ w1 r (Nat.le_trans (KT 65536 _ _ _ (by omega) (Nat.div_le_self _ _) (hNM _ (by omega))) (by omega))
 ·intro v u w1 r1 r2
  have:=fN v u _ _ w1 r1 r2 (Dg.small_dg _ _ (by omega)) (Dg.small_cons.2 ⟨by omega,Dg.small_nil _ (by omega)⟩) (by omega) (by simp)
  rwa [Dg.vl_dg _ _ (by omega),show Dg.vl 65536 [2]=2 from rfl] at this
 ·intro v u w1 r1 r2
  have:=fm v u _ _ w1 r1 r2 (Dg.small_dg _ _ (by omega)) (Dg.small_dg _ _ (by omega)) (Dg.norm_dg _ _ (by omega)) (Dg.norm_dg _ _ (by omega))
  rwa [Dg.vl_dg _ _ (by omega),Dg.vl_dg _ _ (by omega)] at this
 ·intro w1
  exact Od hway qs _ _ w1
 ·intro v u w1 r1 r2
  have:=ew v u _ _ w1 r1 r2 (Dg.small_dg _ _ (by omega)) (Dg.small_cons.2 ⟨by omega,Dg.small_nil _ (by omega)⟩) (Dg.norm_dg _ _ (by omega)) (by rw[show([1]:List Nat)=Dg.dg 65536 1 from by decide];exact Dg.norm_dg _ _ (by omega)) (by omega) (by simp)
  rwa [Dg.vl_dg _ _ (by omega),show Dg.vl 65536 [1]=1 from rfl] at this
 ·intro v w1 r
  exact pQ v _ w1 r (Nat.le_trans (ZG hq) (by omega))
 ·intro h1 h2 h3 w1
  rw[KS h2 h3,show io R D (cH R D L gr N M E+1)=2^ (ai R*(D-1).toNat) from if_pos ((Ga R D L gr N M E d1 hN hM).1 (of_decide_eq_true h1)),←hDc1]
  exact ZQ _ (ai R*(D-1).toNat/16) (ai R*(D-1).toNat % 16) w1 (by omega) (by omega) (by omega)
end Go.Proofs.YtddkchlamdhgcaaGreatDoor

/-
  Texts laid together: Oq1, Oq2, Ra3, Rb3, Eh4, Eh5.
-/
import Derived.Test.YtddkchlamdhgcaaGreatDoorSu37
import Derived.Test.YtddkchlamdhgcaaGreatDoorSu41
import Derived.Test.YtddkchlamdhgcaaGreatDoorSu42
set_option maxRecDepth 100000
set_option maxHeartbeats 12800000
namespace Go.Proofs.YtddkchlamdhgcaaGreatDoor
open _root_.Go.Proofs.Tryz
open Go.RowKit
theorem ZI {w w1 w2:World}{n:Int}{ps:List ByteArray}{i:Nat}{lv v' x:Value}{p:ByteArray}{cs:List Value}(hp:ps[i]? =some p)(he:dF n p=0)(h2:tg w1 n lv.ownBlock (ps.take i) cs)(h3:fT n ps=fT n (ps.drop i))(hx:Gw w1 n lv.ownBlock p x)
  (hown:w2.ownsRow w.heap.size 32 5 v' (i+1) (cs++rfC n p x)) (hg:w1.grownBy w2 lv.ownBlock) (hat:v'.ownBlock=lv.ownBlock∨v'.ownBlock=some w1.heap.size):
  Vz w n ps (i+1) v' w2:=by
 have hil:i<ps.length:=by
  rw[List.getElem?_eq_some_iff] at hp;exact hp.1
 have hm: ∀q v,Gw w1 n lv.ownBlock q v→Gw w2 n v'.ownBlock q v:=fun q v k=>by
  obtain⟨k1,k2,k3⟩:=k;refine⟨k1, ?_, ?_⟩
  ·obtain⟨so,sc,rfl⟩:=k1
   cases hb:lv.ownBlock with
   |none=>exact k2.l ⟨hg.os,hg.tape,hg.output,hg.size,fun j hj=>hg.block j hj (by rw[hb];exact fun e=>nomatch e)⟩
   |some b=>exact Nx k2 (hb▸hg) (k3 b hb)
  ·intro b hb
   rcases hat with e|e
   ·exact k3 b (by rw[←e];exact hb)
   ·have hbw:b=w1.heap.size:=by rw[e] at hb;exact(Option.some.inj hb).symm
    exact t9 k2 (by omega)
 refine⟨_,hown, ?_, ?_⟩
 ·rw[List.take_add_one,hp]
  exact(h2.mono hm).snoc (hm p x hx)
 ·rw[h3]
  have hd:ps.drop i=p::ps.drop (i+1):=by
   rw[List.drop_eq_getElem_cons hil]
   congr 1
   rw[List.getElem?_eq_getElem hil] at hp;exact Option.some.inj hp
  rw[hd];exact if_pos he
theorem Mz (n way f0 f1 f2 f3 f4 f5 f6 f8:Int)(f7 ok iw:Bool)(ps:List ByteArray)(pb:Nat)(w:World)(hps:au w pb 9 (ps.map Value.string))(hm:ps.length≤3)(hok:ok=decide (dK n≠0))(hiw:iw=iC way)
  (HF:yJ 18 #[yi n] (.tuple #[yhV f0 f1 f2 f3 f4 f5 f6 f7 f8,.bool ok]))
  (HO: ∀p w1,yC 19 #[yi n,.string p] w1 (yR w1 (yi (dF n p))))
  (HD: ∀p w1,dF n p=0→yC 20 #[yi n,.string p] w1 (JV w1 ((bM n p:Nat):Int) (rfG n p) (rfT n p) (Gi n p)))
  (HY: ∀w1,yC 34 #[yi way] w1 fun z w'=>z= .returned (.bool iw)∧w'=w1):
  yC 8 #[yi n,yi way,.slice (some ⟨pb,0,none⟩) ps.length ps.length] w (Ri w n ps (CK n way ps)):=by
 replace HF:Hid _:=HF;replace HO:Hid _:=HO;replace HD:Hid _:=HD;replace HY:Hid _:=HY;obtain⟨i0,hi,hz0,hz1,hz2⟩:=info_parts (show(Tryz.prog.info? 32).map (fun i=>(i.zero,i.size,i.bytes))=some (some (yoV 0 false false yN 0),5,56) by kernel_rfl)
 have HI:Hid (_∧_∧_∧_):=⟨hi,hz0,hz1,hz2⟩;have hpb:=hps.lt;obtain⟨m,hmE⟩: ∃m,ps.length=m:=⟨_,rfl⟩;rw[hmE] at hm⊢;have HM:Hid (ps.length=m):=hmE;have HOK:Hid (ok=decide (dK n≠0)∧iw=iC way):=⟨hok,hiw⟩;clear hmE hi hz0 hz1 hz2 hok hiw
 go_enter func8,ntmps8
 go_wp2_with fail
 refine(HF.out _).mono ?_;rintro z w1 ⟨rfl,b1⟩;have bA:=af w1 (.cells (yhA f0 f1 f2 f3 f4 f5 f6 f7 f8) 51);have b0:=aa b1 bA;have s0:=hps.l b0;clear b1 bA hps
 cases ok
 ·go_wp2
  go_ret2
  have hf:dK n=0:=by
   have:=HOK.out.1
   simpa using this.symm
  refine .inr ⟨?_, ?_,b0⟩
  ·unfold CK
   rw[if_pos hf]
   decide
  ·unfold CK
   rw[if_pos hf];rfl
 go_wp2
 generalize w1.alloc (.cells (yhA f0 f1 f2 f3 f4 f5 f6 f7 f8) 51)=W0 at b0 s0⊢
 go_loopw [8,11] (fun lv iv wr=> ∃i:Nat,iv=yi (i:Int)∧i≤m∧Vz w n ps i lv wr∧yB w wr∧au wr pb 9 (ps.map Value.string)) (fun _ iv _=>m-(intOf iv).toNat)
 case atStart=>exact⟨0,rfl,by omega,⟨[],World.ownsRow_nil _ _ _ 5,rfl,rfl⟩,b0,s0⟩
 case round=>
  obtain⟨i,rfl,him,hO,bel,sl⟩:=hrel
  by_cases hlt:i<m
  ·have hil:i<ps.length:=by have:=HM.out;omega
   obtain⟨p,hp⟩: ∃p,ps[i]? =some p:=⟨_,List.getElem?_eq_getElem hil⟩;have y:=sl.c i (v:= .string p) (by rw[List.getElem?_map,hp];rfl);have HOp:=HO.out p;have HDp:=fun w1 h=>HD.out p w1 h
   obtain⟨c,ec⟩: ∃c:Int,((bM n p:Nat):Int)=c:=⟨_,rfl⟩;obtain⟨gg,eg⟩: ∃c,rfG n p=c:=⟨_,rfl⟩;obtain⟨t,et⟩: ∃c,rfT n p=c:=⟨_,rfl⟩;obtain⟨cg,ecg⟩: ∃c,Gi n p=c:=⟨_,rfl⟩;obtain⟨er,ee⟩: ∃c,dF n p=c:=⟨_,rfl⟩;rw[ee] at HOp;rw[ec,eg,et,ecg,ee] at HDp;have HP:Hid (ps[i]? =some p∧((bM n p:Nat):Int)=c∧rfG n p=gg∧rfT n p=t∧dF n p=er):=⟨hp,ec,eg,et,ee⟩;replace HOp:Hid _:=HOp;replace HDp:Hid _:=HDp;clear hp hil ec eg et ee ecg
   go_wp2_with fail
   refine(HOp.out _).mono ?_;rintro z w2 ⟨rfl,b2⟩;have y2:=cell_later b2 y;have hO2:=hO.l b2;have sl2:=sl.l b2;have bel2:=aa bel b2;have hbl: ∀b,u8.ownBlock=some b→b<wr.heap.size:=fun b hb=>by
    obtain⟨cs,h1,-⟩:=hO;exact(World.ownsRow.lt h1 b hb).2
   have hsz:wr.heap.size≤w2.heap.size:=b2.size;have hws:w.heap.size≤wr.heap.size:=bel.size;clear b2 y hO sl bel
   by_cases he:er=0
   ·replace HDp:Hid _:=fun w1=>HDp.out w1 he
    subst he
    go_wp2_with fail
    refine(HDp.out _).mono ?_;rintro z w3 ⟨x,rfl,rx,b3,fx⟩;obtain⟨xo,xc,hx⟩:=rx.shape;subst hx;have a3:=af w3 (.cells (yoA c gg t.s (yS xo t.n xc) t.e) 32);have q3:=ah w3 (yoL c gg t.s (yS xo t.n xc) t.e) 32;have bb:=aa b3 a3;have rx3:=rx.l a3;have hO3:=hO2.l bb;have sl3:=sl2.l bb;have bel3:=aa bel2 bb;have hsz3:w2.heap.size≤w3.heap.size:=b3.size;clear b3 a3 bb rx hO2 sl2 bel2 y2
    go_upto_region 12 with fail
    generalize w3.alloc (.cells (yoA c gg t.s (yS xo t.n xc) t.e) 32)=W at q3 rx3 hO3 sl3 bel3⊢;generalize w3.heap.size=Q at q3 hsz3⊢;have al:=af W (.cells (yoA c gg t.s (yS xo t.n xc) t.e) 32);have nl:=ah W (yoL c gg t.s (yS xo t.n xc) t.e) 32;have rx4:=rx3.l al;have sl4:=sl3.l al;have bel4:=aa bel3 al;obtain⟨cs,k1,k2,k3⟩:=hO3.l al;obtain⟨hi,hz0,hz1,hz2⟩:=HI.out;have hw3:w.heap.size≤(W.alloc (.cells (yoA c gg t.s (yS xo t.n xc) t.e) 32)).heap.size:=bel4.size;obtain⟨v',w4,hrun,hown',hgrow,-,hat⟩:=run_append_own_at (P:=Tryz.prog) (W.alloc (.cells (yoA c gg t.s (yS xo t.n xc) t.e) 32)) w.heap.size 25 25 32 i0 _ 5 56 underlying25 hi hz0 hz1 hz2 rfl (by omega) u8 i cs k1 ⟨W.heap.size,0,none⟩ 1 1 (yoL c gg t.s (yS xo t.n xc) t.e) rfl (fun j u hj=>by have:=nl.c j hj;rw[Addr.add_mid,Nat.zero_add];exact this) (fun u hu=>by simp at hu;rcases hu with rfl|rfl|rfl|rfl|rfl<;>rfl) (by unfold maxLen;omega) (by omega) hw3
    have hgb: ∀g,u8.ownBlock=some g→w.heap.size≤g∧g<wr.heap.size:=fun g hg=>⟨(World.ownsRow.lt k1 g hg).1,hbl g hg⟩
    have sl5:=sl4.grownO hgrow (fun g hg=>by have:=hgb g hg;omega)
    have bel5:=bel4.grown hgrow (by omega) (fun g hg=>by have:=hgb g hg;omega)
    have hOps:Vz w n ps (i+1) v' w4:=by
     obtain⟨h1,h2,h3,h4,h5⟩:=HP.out;refine ZI (x:=yS xo t.n xc) h1 h5 k2 k3 ⟨⟨xo,xc,by rw[h4]⟩,by rw[h4];exact rx4,fun b hb=> ?_⟩ ?_ hgrow hat
     ·intro _ a u v hv
      have:=fx a u v hv;have:=hgb b hb;omega
     ·unfold rfC
      rw[h2,h3,h4];exact hown'
    obtain⟨c0,c1,c2,c3,c4⟩:=q3.cs5;replace hrun:Hid _:=hrun;clear rx3 rx4 sl3 sl4 bel3 bel4 hO3 al nl k1 k2 k3 hown' hgrow hat fx hi hz0 hz1 hz2 HI hw3 hgb HOp HDp HP hbl hsz hsz3 hws q3
    go_wp2_with (at_builtin;refine Bi rfl _ _ 25 rfl _ _ v' w4 rfl rfl hrun.out ?_)
    go_wp2
    go_roundw
    case rel=>exact⟨i+1,by go_num,by omega,hOps,bel5,sl5⟩
    case measure=>simp[intOf];omega
   ·have hef:(er==0)=false:=by simpa using he
    go_wp2
    go_ret2
    obtain⟨h1,-,-,-,h5⟩:=HP.out;obtain⟨cs,-,-,k3⟩:=hO2;have hil:i<ps.length:=by have:=HM.out;omega
    have hd:ps.drop i=p::ps.drop (i+1):=by
     rw[List.drop_eq_getElem_cons hil]
     congr 1
     rw[List.getElem?_eq_getElem hil] at h1;exact Option.some.inj h1
    have hE:fT n ps=er:=by
     rw[k3,hd,←h5];exact if_neg (by rw[h5];exact he)
    have hf:dK n≠0:=by
     have:=HOK.out.1
     simpa using this.symm
    have hO:CK n way ps=er:=by
     unfold CK;rw[if_neg hf,hE,if_neg he]
    refine .inr ⟨by rw[hO];exact he, ?_,bel2⟩;rw[hO];rfl
  ·have HE:Hid (i=m):=(by omega:i=m)
   go_wp2_with fail
   refine(HY.out _).mono ?_;rintro z w2 ⟨rfl,rfl⟩;have hf:dK n≠0:=by
    have:=HOK.out.1
    simpa using this.symm
   obtain⟨cs,k1,k2,k3⟩:=hO;have h1:=HE.out;have h2:=HM.out;subst h1;rw[List.take_of_length_le (by omega)] at k2;rw[List.drop_of_length_le (by omega)] at k3;replace k3:fT n ps=0:=k3;have hO:CK n way ps=if iw then 0 else 6:=by
    unfold CK;rw[if_neg hf,if_pos k3,HOK.out.2]
   replace hO:Hid _:=hO;replace k3:Hid _:=k3;clear hf h2
   cases iw
   ·go_wp2
    go_ret2
    refine .inr ⟨by rw[hO.out];decide, ?_,bel⟩;rw[hO.out];rfl
   ·go_wp2
    go_ret2
    have h2:=HM.out;refine .inl ⟨hO.out,u8,cs,rfl, ?_,k2,bel⟩;rw[h2];exact k1
theorem refOfD_any (x:ak)(xo:Option Addr)(xc:Nat)(w:World):
  yC 10 #[ydV x.s (yS xo x.n xc) x.e] w fun z w'=> ∃eo ec,z= .returned (yrV x.s (yS xo x.n xc) (.slice eo 1 ec) x.e)∧Rd w' .i64 (.slice eo 1 ec) [1]∧yB w w':=by
 obtain⟨W,hW,q1,q2,b⟩:=iG w (ydL x.s (yS xo x.n xc) x.e) 30 (yrL false yN yN 0) 37;replace hW:Hid _:=hW
 go_enter func10,ntmps10
 go_upto_region 1 with fail
 rw[hW.out];clear hW;have al:=af W (.cells #[yi 1] 3);have hn:=ah W [yi 1] 3;have hlt:=q2.lt;have q3:=q2.l al;have b3:=aa b al;have hf:=afz (P:=Tryz.prog) q3 b3 (by omega) underlying37 rfl (by kernel_rfl) (.bool x.s) (yS xo x.n xc) (.slice (some ⟨W.heap.size,0,none⟩) 1 1) (yi x.e);have HH:Hid (_∧_∧_):=⟨hf.1,hf.2.2.loc hn (by omega),hf.2.1⟩;obtain⟨c0,c1,c2⟩:=q1.cs3;obtain⟨d0,d1,d2⟩:=(q1.l al).cs3;obtain⟨⟨z0,z1,z2,z3⟩,y0,y1,y2,y3⟩:=afB q3;clear hf q1 q2 q3 b b3 al hn hlt
 go_wp2
 obtain⟨hl,hq,bR⟩:=HH.out;exact bodyPost_ret (br results10 rfl hl) rfl ⟨_,_,rfl,rd_one16 (hq.c 0 rfl),bR⟩
theorem fit_any (k:Nat)(hk:1≤k∧k≤8)(way:Int)(qs:Bool)(ao:Option Addr)(ca:Nat)(xs:List Nat)(bo:Option Addr)(cb:Nat)(ys:List Nat)(E:Int)(w:World)(ha:Rd w .u32 (.slice ao xs.length ca) xs)(hb:Rd w .u32 (.slice bo ys.length cb) ys)(sa:Dg.Small 4294967296 xs)(sb:Dg.Small 4294967296 ys)(hT:Tab w):
  yC 52 #[yi k,yrV qs (.slice ao xs.length ca) (.slice bo ys.length cb) E,yi way] w (mM (fitT k way qs xs ys E) w):=by
 unfold fitT;have HR:=fun w1 (b:yB w w1)=>jM qs ao ca xs bo cb ys E (rdN k) (dgN k) (lsI k) (gsI k) (decide (k≤3)) way w1 (ha.l b) (hb.l b) sa sb
 have hway:eE xs ys E (rdN k) (dgN k) (lsI k) (gsI k) way=0→1≤way∧way≤5:=fun h=>way_is.1 (Nb h).2.2
 generalize hP:df xs ys E (rdN k) (dgN k) (lsI k) (gsI k) (decide (k≤3)) qs way=P at*;generalize hC:eE xs ys E (rdN k) (dgN k) (lsI k) (gsI k) way=rc at*;exact afx k way (dK k) (rdN k) (dgN k) (lsI k) (gsI k) rc (decide (k≤3)) qs ao xs.length ca bo ys.length cb E P.s P.d P.p P.ex P.ov P.un (pG k way P).1 (pG k way P).2.1 (pG k way P).2.2.1 (pG k way P).2.2.2.1 (pG k way P).2.2.2.2 (Dw k (pG k way P).1 (pG k way P).2.1 (pG k way P).2.2.1 (pG k way P).2.2.2.1 (pG k way P).2.2.2.2).1 (Dw k (pG k way P).1 (pG k way P).2.1 (pG k way P).2.2.1 (pG k way P).2.2.2.1 (pG k way P).2.2.2.2).2.1 (Dw k (pG k way P).1 (pG k way P).2.1 (pG k way P).2.2.1 (pG k way P).2.2.2.1 (pG k way P).2.2.2.2).2.2 _ w (fun h=>by rw[if_neg h]) (fun h=>by rw[if_pos h]) (fun w1=>mp k hk w1) (fun w1 b=>(HR w1 b).mono (fun z w' h=>by
   obtain⟨v,h1,h2,h3⟩:=h;obtain⟨po,pc,e⟩:=h2.rd.shape;subst e;exact⟨po,pc,h1,h2.rd,h3⟩)) (fun h po pc w1 _ r=>Px k hk way (hway h) P po pc w1 r) (fun _ vo vc w1 b r=>CZ k way _ _ _ _ _ vo vc w1 r (hT.l b))
theorem exact_W (k j Ra Da La Ga Rb Db Lb Gb:Int)(gra grb res:Bool)(ts:List ak)(hb:ak→Bool)(w:World)(hne:ts≠[])(hres:ts.all hb=res)
  (HA:yJ 43 #[yi k] (.tuple #[ygV Ra Da La Ga gra,yi 0]))
  (HB:yJ 43 #[yi j] (.tuple #[ygV Rb Db Lb Gb grb,yi 0]))
  (HH: ∀w1,yB w w1→yC 44 #[ygV Ra Da La Ga gra] w1 (HdRes w1 ts))
  (HO: ∀t∈ts,∀ao ac w1,yB w w1→Rd w1 .u32 (yT ao t.n ac) (Dg.dg 4294967296 t.n)→yC 45 #[yDV t ao ac,ygV Rb Db Lb Gb grb] w1 (yR w1 (.tuple #[.bool (hb t),yi 0]))):
  yC 17 #[yi k,yi j] w (yR w (.tuple #[.bool res,yi 0])):=by
 replace HA:Hid _:=HA;replace HB:Hid _:=HB;replace HH:Hid _:=HH;replace HO:Hid _:=HO;replace hres:Hid _:=hres
 go_enter func17,ntmps17
 have b0:=Below.refl w.heap.size w
 go_wp2_with fail
 refine(HA.out _).mono ?_;rintro zz w1 ⟨rfl,bb2⟩;have b3:=aa b0 bb2;clear b0 bb2 HA;obtain⟨W6,hW5,q7,al4⟩:=cA w1 (ygL Ra Da La Ga gra) 40;replace hW5:Hid _:=hW5;have hl8:w.heap.size≤w1.heap.size:=b3.size;have b9:=aa b3 al4;clear b3 al4
 go_upto_region 2 with fail
 rw[hW5.out];clear hW5
 go_wp2_with fail
 refine(HB.out _).mono ?_;rintro zz w10 ⟨rfl,bb11⟩;have q12:=q7.l bb11;have b13:=aa b9 bb11;clear q7 b9 bb11 HB;obtain⟨W16,hW15,q17,al14⟩:=cA w10 (ygL Rb Db Lb Gb grb) 40;replace hW15:Hid _:=hW15;have hl18:w.heap.size≤w10.heap.size:=b13.size;have hl19:=q12.lt;have q20:=q12.l al14;have b21:=aa b13 al14;clear q12 b13 al14
 go_upto_region 5 with fail
 rw[hW15.out];clear hW15;obtain⟨c22,c23,c24,c25,c26⟩:=q20.cs5
 go_wp2_with fail
 refine(HH.out _ b21).mono ?_;rintro zz w27 ⟨lv,rfl,hI,bb28⟩;have q29:=q17.l bb28;have b30:=aa b21 bb28;clear q20 q17 b21 bb28 HH c22 c23 c24 c25 c26;have bW:=b30;have lB:=q29;have hbw:w.heap.size≤w.heap.size:=Nat.le_refl _;clear b30;obtain⟨g,cap,rfl,hV⟩:=dysV_of hne hI;clear hI hbw;obtain⟨n,hn⟩: ∃n,ts.length=n:=⟨_,rfl⟩;have hcap:=hV.fit;have hmost:=hV.most;have hn2:n≤9223372036854775807:=by
  unfold maxLen at hmost;omega
 rw[hn] at hcap⊢;clear hcap hmost;have HNn:Hid (ts.length=n):=hn;clear hn
 go_wp2
 go_loopw [32] (fun iv wr=> ∃i:Nat,i≤n∧iv=yi (i:Int)∧yB w wr∧au wr w10.heap.size 40 (ygL Rb Db Lb Gb grb)∧DysV wr ts g cap∧Hid ((ts.take i).all hb=true)) (fun iv _=>n-(intOf iv).toNat)
 case atStart=>exact⟨0,by omega,rfl,bW,lB,hV,rfl⟩
 case round=>
  clear bW lB hV;obtain⟨i,hin,rfl,bel,lB,hV,hall⟩:=hrel
  by_cases hlt:i<n
  ·obtain⟨t,ht⟩: ∃t,ts[i]? =some t:=⟨_,List.getElem?_eq_getElem (by have:=HNn.out;omega)⟩
   obtain⟨ao,ac,hr,rx⟩:=hV.each i t ht;have HOt:=HO.out t (List.mem_of_getElem? ht);replace HOt:Hid _:=HOt;have HT:Hid (ts[i]? =some t):=ht;have k0:wr.cell? ⟨g,i*3,none⟩=some (.bool t.s):=hr 0 _ rfl;have k1:wr.cell? ⟨g,i*3+1,none⟩=some (yT ao t.n ac):=hr 1 _ rfl;have k2:wr.cell? ⟨g,i*3+2,none⟩=some (yi t.e):=hr 2 _ rfl;have al:=af wr (.cells (yDA t ao ac) 76);have q:=ah wr (yDL t ao ac) 76;have lB1:=lB.l al;have hV1:=hV.l al;have b1:=aa bel al;have rx1:=rx.l al;clear ht hr rx lB hV bel al
   go_upto_region 10 with fail
   generalize wr.alloc (.cells (yDA t ao ac) 76)=W at q lB1 hV1 b1 rx1⊢;generalize wr.heap.size=Q at q⊢;obtain⟨c0,c1,c2⟩:=q.cs3;obtain⟨d0,d1,d2,d3,d4⟩:=lB1.cs5;clear k0 k1 k2 q
   go_wp2_with fail
   refine(HOt.out _ _ _ b1 rx1).mono ?_;rintro zz w2 ⟨rfl,b2⟩;have lB2:=lB1.l b2;have hV2:=hV1.l b2;have b3:=aa b1 b2;clear c0 c1 c2 d0 d1 d2 d3 d4 lB1 hV1 b1 b2 rx1 HOt;have hst:(ts.take (i+1)).all hb=hb t:=by
    rw[List.take_add_one,HT.out,List.all_append,hall.out];simp
   cases htb:hb t
   ·rw[htb] at hst
    replace hst:Hid _:=hst;clear htb lB2 hV2
    go_wp2
    go_ret2
    refine⟨?_,b3⟩;have e:res=false:=by
     rw[←hres.out,←List.take_append_drop (i+1) ts,List.all_append,hst.out];rfl
    rw[e];rfl
   ·rw[htb] at hst
    replace hst:Hid _:=hst;clear htb
    go_wp2
    go_roundw
    case rel=>exact⟨i+1,by omega,by go_num,b3,lB2,hV2,hst.out⟩
    case measure=>simp[intOf];omega
  ·have e:res=true:=by
    rw[←hres.out,←hall.out,List.take_of_length_le (by have:=HNn.out;omega)]
   subst e;clear lB hV
   go_wp2
   go_ret2
   exact⟨by simp,bel⟩
theorem cnumber_any (k:Nat)(ao:Option Addr)(la ac d:Nat)(p:Int)(w:World)(hr:Rd w .u32 (.slice ao la ac) (Dg.dg 4294967296 d))(hT:Tab w):
  yC 68 #[ygV (rdN k) (dgN k) (lsI k) (gsI k) (decide (k≤3)),.slice ao la ac,yi p] w (acy w (nbT k d p)):=by
 obtain⟨so,sc,e⟩:=hr.shape
 cases e
 exact cnumber_W _ _ _ _ p _ ao _ ac _ w (fun w1 b1=>IY _ _ _ _ 2 p (cC (ix (Dg.dg 4294967296 d) p (rdN k) (dgN k) (lsI k) (gsI k)) ⟨false,Dg.vl 4294967296 (Dg.dg 4294967296 d),(ai (rdN k):Int)*p⟩).2 _ false ao _ ac _ w1 (fun w2 b2=>kB _ _ _ _ _ false ao ac (Dg.dg 4294967296 d) p false false false w2 ((hr.l b1).l b2) (Dg.small_dg _ _ (by omega)) ((hT.l b1).l b2)))
theorem hardest_any (k:Nat)(hk:1≤k∧k≤8)(w:World)(hT:Tab w):
  yC 44 #[ygV (rdN k) (dgN k) (lsI k) (gsI k) (decide (k≤3))] w (HdRes w (hdL k)):=by
 have hF:((rdN k:Nat):Int)=((2^ai (rdN k):Nat):Int)∧1≤ai (rdN k)∧ai (rdN k)≤4∧rdN k≤16∧2≤rdN k∧ -100000≤lsI k∧lsI k≤100000∧ -100000≤gsI k∧gsI k≤100000∧1≤dgN k∧dgN k≤64:=by
  rcases bO hk with rfl|rfl|rfl|rfl|rfl|rfl|rfl|rfl<;>decide
 obtain⟨f1,f2,f3,f4,f5,l1,l2,g1,g2,d1,d2⟩:=hF;have hU:rdN k^ (dgN k-1)<2^64:=by rcases bO hk with rfl|rfl|rfl|rfl|rfl|rfl|rfl|rfl<;>decide
 have hdg:Dg.dg 4294967296 (rdN k)=[rdN k]:=by rcases bO hk with rfl|rfl|rfl|rfl|rfl|rfl|rfl|rfl<;>rfl
 refine hardest_W _ _ _ _ _ (ai (rdN k)) (rdN k^ (dgN k-1)) (nbT k) w f1 ⟨f2,f3⟩ ⟨l1,l2⟩ ⟨g1,g2⟩ ⟨by omega,by omega⟩ (fun ao la ac d p w1 b1 hr=>cnumber_any k ao la ac d p w1 hr (hT.l b1)) (fun q w1 hl=> ?_) (fun v q i w1 hi hv hl=> ?_) (fun v u m w1 hm hv hu=> ?_)
 ·have:=Iq (.slice (some ⟨q,0,none⟩) 1 1) (rdN k) (dgN k-1) 1 w1 (by rw[hdg];exact(row_one (g:=none) hl (fun _ h=>nomatch h)).1) (by omega) (by omega) (by omega) (by omega)
  rw[show((dgN k-1:Nat):Int)=(dgN k:Int)-1 by omega] at this
  exact this
 ·have h2:2^i≤2^4:=Nat.pow_le_pow_right (by omega) (by omega)
  have:=qC v (.slice (some ⟨q,0,none⟩) 1 1) (Dg.dg 4294967296 (rdN k^ (dgN k-1))) [2^i] w1 hv (row_one (g:=none) hl (fun _ h=>nomatch h)).1 (Dg.small_dg _ _ (by omega)) (Dg.small_cons.2 ⟨by omega,Dg.small_nil _ (by omega)⟩) (Nat.le_trans (jq (L:=8) hU (by omega)) (by omega)) (by simp)
  rw[Dg.vl_dg _ _ (by omega),show Dg.vl 4294967296 [2^i]=2^i by simp[Dg.vl]] at this
  exact this
 ·have hm2:m<2^68:=by omega
  have:=rj v u (Dg.dg 4294967296 m) [1] w1 hv hu (Dg.small_dg _ _ (by omega)) (Dg.small_cons.2 ⟨by omega,Dg.small_nil _ (by omega)⟩) (Nat.le_trans (jq (L:=9) hm2 (by omega)) (by omega)) (by simp);rw[Dg.vl_dg _ _ (by omega),show Dg.vl 4294967296 [1]=1 from rfl] at this
  exact this
theorem exact_any (k j:Nat)(hk:1≤k∧k≤8)(hj:1≤j∧j≤8)(w:World)(hT:Tab w):
  yC 17 #[yi k,yi j] w (yR w (.tuple #[.bool (exB k j),yi 0])):=by
 obtain⟨hf,hne⟩:=hd_fine hk;refine exact_W k j _ _ _ _ _ _ _ _ _ _ (exB k j) (hdL k) (hdB8 j) w hne rfl (fun w1=>vj k hk w1) (fun w1=>vj j hj w1) (fun w1 b1=>hardest_any k hk w1 (hT.l b1)) (fun t ht ao ac w1 b1 hr=> ?_)
 have hc:aS (Dg.dg 4294967296 t.n) t.e=0:=by
  have:=List.all_eq_true.1 hf t ht
  simpa using this
 have hg:=(eR hj).2.2.2.2.2.2.2.2.2.2.2;have ho:onC (aS (Dg.dg 4294967296 t.n) t.e) (bk (rdN j) (dgN j) (lsI j) (gsI j))=0:=by
  unfold onC;rw[if_pos hc,hg]
 have:=qR (rdN j) (dgN j) (lsI j) (gsI j) (decide (j≤3)) t.s ao ac (Dg.dg 4294967296 t.n) t.e w1 hr (Dg.small_dg _ _ (by omega)) (hT.l b1);unfold um at this;rw[ho,if_pos rfl,Dg.vl_dg _ _ (by omega)] at this;exact this
end Go.Proofs.YtddkchlamdhgcaaGreatDoor

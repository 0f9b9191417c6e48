/-
  Texts laid together: Oq2, Gr11, Oq5, Gb8.
-/
import Derived.Test.YtnhackdjplppjaaGreatDoorSh45
import Derived.Test.YtnhackdjplppjaaGreatDoorSh40
set_option maxRecDepth 100000
set_option maxHeartbeats 12800000
namespace Go.Proofs.YtnhackdjplppjaaGreatDoor
open _root_.Go.Proofs.Tryz
open Go.RowKit
theorem Bi {P:Program}{ops:Array Oper}{rest:List Oper}{o:Oper}{a:Act}{w:World}{Q:Exit→Act→World→Prop}(hg:o.guard=none)(s x:Operand)(t:TypeId)(hop:o.op=Op.call {callee:=Callee.builtin Builtin.append,args:= #[s,x],argTypes:= #[t,t]})
  (v u v':Value) (w':World) (hs:a.eval s=v) (hx:a.eval x=u) (hr:(Builtin.append_ #[t,t] o.type #[v,u]).run P w= .ok v' w') (h:wpList P ops Q rest (a.put o.dst v') w'):wpList P ops Q (o::rest) a w:=
 wpList_plain hg fun K hK=>by
  unfold Oper.wp;simp[execOp,hop,resolve,invoke,builtin,hs,hx,hr,Result.andThen];exact hK _ _ h
theorem Mz (n way f0 f1 f2 f3 f4 f5 f6 f8:Int)(f7 ok iw:Bool)(ps:List ByteArray)(pb:Nat)(w:World)(hps:au w pb 9 (ps.map Value.string))(hm:ps.length≤3)(hok:ok=decide (dK n≠0))(hiw:iw=iC way)
  (HF:yJ 35 #[yi n] (.tuple #[.agg #[yi f0,yi f1,yi f2,yi f3,yi f4,yi f5,yi f6,.bool f7,yi f8],.bool ok]))
  (HO: ∀p w1,yC 56 #[yi n,.string p] w1 (yR w1 (yi (dF n p))))
  (HD: ∀p w1,dF n p=0→yC 57 #[yi n,.string p] w1 (JV w1 ((bM n p:Nat):Int) (rfG n p) (rfT n p) (Gi n p)))
  (HY: ∀w1,yC 37 #[yi way] w1 fun z w'=>z= .returned (.bool iw)∧w'=w1):
  yC 18 #[yi n,yi way,.slice (some ⟨pb,0,none⟩) ps.length ps.length] w (Ri w n ps (CK n way ps)):=by
 replace HF:Hid _:=HF;replace HO:Hid _:=HO;replace HD:Hid _:=HD;replace HY:Hid _:=HY;obtain⟨i0,hi,hz0,hz1,hz2⟩:=info_parts (show(Tryz.prog.info? 32).map (fun i=>(i.zero,i.size,i.bytes))=some (some (yoV 0 false false (.slice none 0 0) 0),5,56) by kernel_rfl)
 have HI:Hid (_∧_∧_∧_):=⟨hi,hz0,hz1,hz2⟩;have hpb:=hps.lt;obtain⟨m,hmE⟩: ∃m,ps.length=m:=⟨_,rfl⟩;rw[hmE] at hm⊢;have HM:Hid (ps.length=m):=hmE;have HOK:Hid (ok=decide (dK n≠0)∧iw=iC way):=⟨hok,hiw⟩;clear hmE hi hz0 hz1 hz2 hok hiw
 go_enter func18,ntmps18
 go_wp2_with fail
 refine(HF.out _).mono ?_;rintro z w1 ⟨rfl,b1⟩;have bA:=af w1 (.cells #[yi f0,yi f1,yi f2,yi f3,yi f4,yi f5,yi f6,.bool f7,yi f8] 58);have b0:=aa b1 bA;have s0:=hps.l b0;clear b1 bA hps
 cases ok
 ·go_wp2
  go_ret2
  have hf:dK n=0:=by
   have:=HOK.out.1
   simpa using this.symm
  refine .inr ⟨?_, ?_,b0⟩
  ·unfold CK
   rw[if_pos hf]
   decide
  ·unfold CK
   rw[if_pos hf];rfl
 go_wp2
 generalize w1.alloc (.cells #[yi f0,yi f1,yi f2,yi f3,yi f4,yi f5,yi f6,.bool f7,yi f8] 58)=W0 at b0 s0⊢
 go_loopw [8,11] (fun lv iv wr=> ∃i:Nat,iv=yi (i:Int)∧i≤m∧Vz w n ps i lv wr∧yB w wr∧au wr pb 9 (ps.map Value.string)) (fun _ iv _=>m-(intOf iv).toNat)
 case atStart=>exact⟨0,rfl,by omega,⟨[],World.ownsRow_nil _ _ _ 5,rfl,rfl⟩,b0,s0⟩
 case round=>
  obtain⟨i,rfl,him,hO,bel,sl⟩:=hrel
  by_cases hlt:i<m
  ·have hil:i<ps.length:=by have:=HM.out;omega
   obtain⟨p,hp⟩: ∃p,ps[i]? =some p:=⟨_,List.getElem?_eq_getElem hil⟩;have y:=sl.c i (v:= .string p) (by rw[List.getElem?_map,hp];rfl);have HOp:=HO.out p;have HDp:=fun w1 h=>HD.out p w1 h
   obtain⟨c,ec⟩: ∃c:Int,((bM n p:Nat):Int)=c:=⟨_,rfl⟩;obtain⟨gg,eg⟩: ∃c,rfG n p=c:=⟨_,rfl⟩;obtain⟨t,et⟩: ∃c,rfT n p=c:=⟨_,rfl⟩;obtain⟨cg,ecg⟩: ∃c,Gi n p=c:=⟨_,rfl⟩;obtain⟨er,ee⟩: ∃c,dF n p=c:=⟨_,rfl⟩;rw[ee] at HOp;rw[ec,eg,et,ecg,ee] at HDp;have HP:Hid (ps[i]? =some p∧((bM n p:Nat):Int)=c∧rfG n p=gg∧rfT n p=t∧dF n p=er):=⟨hp,ec,eg,et,ee⟩;replace HOp:Hid _:=HOp;replace HDp:Hid _:=HDp;clear hp hil ec eg et ee ecg
   go_wp2_with fail
   refine(HOp.out _).mono ?_;rintro z w2 ⟨rfl,b2⟩;have y2:=cell_later b2 y;have hO2:=hO.l b2;have sl2:=sl.l b2;have bel2:=aa bel b2;have hbl: ∀b,u8.ownBlock=some b→b<wr.heap.size:=fun b hb=>by
    obtain⟨cs,h1,-⟩:=hO;exact(World.ownsRow.lt h1 b hb).2
   have hsz:wr.heap.size≤w2.heap.size:=b2.size;have hws:w.heap.size≤wr.heap.size:=bel.size;clear b2 y hO sl bel
   by_cases he:er=0
   ·replace HDp:Hid _:=fun w1=>HDp.out w1 he
    subst he
    go_wp2_with fail
    refine(HDp.out _).mono ?_;rintro z w3 ⟨x,rfl,rx,b3,fx⟩;obtain⟨xo,xc,hx⟩:=rx.shape;subst hx;have a3:=af w3 (.cells (yoA c gg t.s (.slice xo (Dg.dg 65536 t.n).length xc) t.e) 32);have q3:=ah w3 (yoL c gg t.s (.slice xo (Dg.dg 65536 t.n).length xc) t.e) 32;have bb:=aa b3 a3;have rx3:=rx.l a3;have hO3:=hO2.l bb;have sl3:=sl2.l bb;have bel3:=aa bel2 bb;have hsz3:w2.heap.size≤w3.heap.size:=b3.size;clear b3 a3 bb rx hO2 sl2 bel2 y2
    go_upto_region 12 with fail
    generalize w3.alloc (.cells (yoA c gg t.s (.slice xo (Dg.dg 65536 t.n).length xc) t.e) 32)=W at q3 rx3 hO3 sl3 bel3⊢;generalize w3.heap.size=Q at q3 hsz3⊢;have al:=af W (.cells (yoA c gg t.s (.slice xo (Dg.dg 65536 t.n).length xc) t.e) 32);have nl:=ah W (yoL c gg t.s (.slice xo (Dg.dg 65536 t.n).length xc) t.e) 32;have rx4:=rx3.l al;have sl4:=sl3.l al;have bel4:=aa bel3 al;obtain⟨cs,k1,k2,k3⟩:=hO3.l al;obtain⟨hi,hz0,hz1,hz2⟩:=HI.out;have hw3:w.heap.size≤(W.alloc (.cells (yoA c gg t.s (.slice xo (Dg.dg 65536 t.n).length xc) t.e) 32)).heap.size:=bel4.size;obtain⟨v',w4,hrun,hown',hgrow,-,hat⟩:=run_append_own_at (P:=Tryz.prog) (W.alloc (.cells (yoA c gg t.s (.slice xo (Dg.dg 65536 t.n).length xc) t.e) 32)) w.heap.size 25 25 32 i0 _ 5 56 underlying25 hi hz0 hz1 hz2 rfl (by omega) u8 i cs k1 ⟨W.heap.size,0,none⟩ 1 1 (yoL c gg t.s (.slice xo (Dg.dg 65536 t.n).length xc) t.e) rfl (fun j u hj=>by have:=nl.c j hj;rw[Addr.add_mid,Nat.zero_add];exact this) (fun u hu=>by simp at hu;rcases hu with rfl|rfl|rfl|rfl|rfl<;>rfl) (by unfold maxLen;omega) (by omega) hw3
    have hgb: ∀g,u8.ownBlock=some g→w.heap.size≤g∧g<wr.heap.size:=fun g hg=>⟨(World.ownsRow.lt k1 g hg).1,hbl g hg⟩
    have sl5:=sl4.grownO hgrow (fun g hg=>by have:=hgb g hg;omega)
    have bel5:=bel4.grown hgrow (by omega) (fun g hg=>by have:=hgb g hg;omega)
    have hOps:Vz w n ps (i+1) v' w4:=by
     obtain⟨h1,h2,h3,h4,h5⟩:=HP.out;refine ZI (x:= .slice xo (Dg.dg 65536 t.n).length xc) h1 h5 k2 k3 ⟨⟨xo,xc,by rw[h4]⟩,by rw[h4];exact rx4,fun b hb=> ?_⟩ ?_ hgrow hat
     ·intro _ a u v hv
      have:=fx a u v hv;have:=hgb b hb;omega
     ·unfold rfC
      rw[h2,h3,h4];exact hown'
    obtain⟨c0,c1,c2,c3,c4⟩:=q3.cs5;replace hrun:Hid _:=hrun;clear rx3 rx4 sl3 sl4 bel3 bel4 hO3 al nl k1 k2 k3 hown' hgrow hat fx hi hz0 hz1 hz2 HI hw3 hgb HOp HDp HP hbl hsz hsz3 hws q3
    go_wp2_with (at_builtin;refine Bi rfl _ _ 25 rfl _ _ v' w4 rfl rfl hrun.out ?_)
    go_wp2
    go_roundw
    case rel=>exact⟨i+1,by go_num,by omega,hOps,bel5,sl5⟩
    case measure=>simp[intOf];omega
   ·have hef:(er==0)=false:=by simpa using he
    go_wp2
    go_ret2
    obtain⟨h1,-,-,-,h5⟩:=HP.out;obtain⟨cs,-,-,k3⟩:=hO2;have hil:i<ps.length:=by have:=HM.out;omega
    have hd:ps.drop i=p::ps.drop (i+1):=by
     rw[List.drop_eq_getElem_cons hil]
     congr 1
     rw[List.getElem?_eq_getElem hil] at h1;exact Option.some.inj h1
    have hE:fT n ps=er:=by
     rw[k3,hd,←h5];exact if_neg (by rw[h5];exact he)
    have hf:dK n≠0:=by
     have:=HOK.out.1
     simpa using this.symm
    have hO:CK n way ps=er:=by
     unfold CK;rw[if_neg hf,hE,if_neg he]
    refine .inr ⟨by rw[hO];exact he, ?_,bel2⟩;rw[hO];rfl
  ·have HE:Hid (i=m):=(by omega:i=m)
   go_wp2_with fail
   refine(HY.out _).mono ?_;rintro z w2 ⟨rfl,rfl⟩;have hf:dK n≠0:=by
    have:=HOK.out.1
    simpa using this.symm
   obtain⟨cs,k1,k2,k3⟩:=hO;have h1:=HE.out;have h2:=HM.out;subst h1;rw[List.take_of_length_le (by omega)] at k2;rw[List.drop_of_length_le (by omega)] at k3;replace k3:fT n ps=0:=k3;have hO:CK n way ps=if iw then 0 else 6:=by
    unfold CK;rw[if_neg hf,if_pos k3,HOK.out.2]
   replace hO:Hid _:=hO;replace k3:Hid _:=k3;clear hf h2
   cases iw
   ·go_wp2
    go_ret2
    refine .inr ⟨by rw[hO.out];decide, ?_,bel⟩;rw[hO.out];rfl
   ·go_wp2
    go_ret2
    have h2:=HM.out;refine .inl ⟨hO.out,u8,cs,rfl, ?_,k2,bel⟩;rw[h2];exact k1
theorem qi (way:Int)(w:World):yC 37 #[yi way] w fun z w'=>z= .returned (.bool (iC way))∧w'=w:=by
 unfold iC
 by_cases h:1≤way
 ·go_enter func37,ntmps37
  go_wp2
  go_ret
  simp[h]
 ·go_enter func37,ntmps37
  go_wp2
  go_ret
  simp;omega
theorem eU {n:Int}: ∀{ps:List ByteArray},fT n ps=0→ ∀p∈ps,dF n p=0
 | [],_,p,hp=>by simp at hp
 |q::ps,h,p,hp=>by
  unfold fT at h
  by_cases c:dF n q=0
  ·rw[if_pos c] at h
   rcases List.mem_cons.1 hp with rfl|h2
   ·exact c
   ·exact eU h p h2
  ·rw[if_neg c] at h
   exact absurd h c
theorem Qc (n way:Int)(ps:List ByteArray)(pb:Nat)(w:World)(hps:au w pb 9 (ps.map Value.string))(hm:ps.length≤3):
  yC 18 #[yi n,yi way,.slice (some ⟨pb,0,none⟩) ps.length ps.length] w (Ri w n ps (CK n way ps)):=by
 by_cases hf:dK n=0
 ·exact Mz n way _ _ _ _ _ _ _ _ _ false (iC way) ps pb w hps hm (by simpa using hf) rfl (fun w1=>oT n w1 hf) (fun p w1=>xu n p w1) (fun p w1 h=>mW n p w1 h) (fun w1=>qi way w1)
 ·obtain⟨h1,h2,h3⟩:=fF hf
  obtain⟨k,rfl⟩: ∃k:Nat,n=(k:Int):=⟨n.toNat,h3.symm⟩;rw[Int.toNat_natCast] at h1 h2;exact Mz (k:Int) way _ _ _ _ _ _ _ _ _ true (iC way) ps pb w hps hm (by simpa using hf) rfl (fun w1=>sU k ⟨h1,h2⟩ w1) (fun p w1=>xu _ p w1) (fun p w1 h=>mW _ p w1 h) (fun w1=>qi way w1)
theorem zl {n:Int}{p:ByteArray}(h:dF n p=0):1≤bM n p∧bM n p≤5:=by
 unfold bM;rw[if_pos h];have:=DV n.toNat (aZ n.toNat p) (aR n.toNat p) (aU n.toNat p);omega
theorem VF (n wy fam R D L G:Int)(gr:Bool)(x:ak)(xo:Option Addr)(xc:Nat)(fl f1 e1:Int)(st:ByteArray)(w:World)
  (HE:yH w 87 #[ykV n wy fam R D L G gr,yvV 1 false (.slice none 0 0) 0,yi fl] (.tuple #[.string st,yi f1,yi e1])):
  yC 107 #[ykV n wy fam R D L G gr,yOV 1 false x xo xc,yi fl] w (yR w (.tuple #[.string st,yi f1,yi e1])):=by
 replace HE:Hid _:=HE;obtain⟨W4,hW5,q1,q2,b3⟩:=iG w (ykL n wy fam R D L G gr) 93 (yOL 1 false x xo xc) 98;replace hW5:Hid _:=hW5
 go_enter func107,ntmps107
 go_upto_region 1 with fail
 rw[hW5.out];clear hW5;obtain⟨c6,c7,c8,c9,c10,c11,c12,c13⟩:=q1.cs8;have c14:=q2.c 0 rfl;have c15:=q2.c 1 rfl
 go_wp2_with fail
 refine(HE.out _ b3).mono ?_;rintro zz w16 ⟨rfl,bb17⟩;have b18:=aa b3 bb17;clear q1 q2 b3 bb17 HE c6 c7 c8 c9 c10 c11 c12 c13 c14 c15
 go_wp2
 go_ret3
 exact⟨rfl,b18⟩
theorem VG (n wy R D L G:Int)(gr:Bool)(x:ak)(xo:Option Addr)(xc:Nat)(fl f1 e1:Int)(st:ByteArray)(w:World)
  (HE:yH w 87 #[ykV n wy 1 R D L G gr,yvV 1 true (.slice none 0 0) 0,yi fl] (.tuple #[.string st,yi f1,yi e1])):
  yC 107 #[ykV n wy 1 R D L G gr,yOV 1 true x xo xc,yi fl] w (yR w (.tuple #[.string st,yi f1,yi e1])):=by
 replace HE:Hid _:=HE;obtain⟨W4,hW5,q1,q2,b3⟩:=iG w (ykL n wy 1 R D L G gr) 93 (yOL 1 true x xo xc) 98;replace hW5:Hid _:=hW5
 go_enter func107,ntmps107
 go_upto_region 1 with fail
 rw[hW5.out];clear hW5;obtain⟨c6,c7,c8,c9,c10,c11,c12,c13⟩:=q1.cs8;have c14:=q2.c 0 rfl;have c15:=q2.c 1 rfl
 go_wp2_with fail
 refine(HE.out _ b3).mono ?_;rintro zz w16 ⟨rfl,bb17⟩;have b18:=aa b3 bb17;clear q1 q2 b3 bb17 HE c6 c7 c8 c9 c10 c11 c12 c13 c14 c15
 go_wp2
 go_ret3
 exact⟨rfl,b18⟩
theorem VH (n wy fam R D L G:Int)(gr:Bool)(x:ak)(xo:Option Addr)(xc:Nat)(fl f1 e1:Int)(st:ByteArray)(w:World)(hf:(fam==1)=false)
  (HE:yH w 87 #[ykV n wy fam R D L G gr,yvV 1 false (.slice none 0 0) 0,yi fl] (.tuple #[.string st,yi f1,yi e1])):
  yC 107 #[ykV n wy fam R D L G gr,yOV 1 true x xo xc,yi fl] w (yR w (.tuple #[.string st,yi f1,yi e1])):=by
 replace HE:Hid _:=HE;obtain⟨W4,hW5,q1,q2,b3⟩:=iG w (ykL n wy fam R D L G gr) 93 (yOL 1 true x xo xc) 98;replace hW5:Hid _:=hW5
 go_enter func107,ntmps107
 go_upto_region 1 with fail
 rw[hW5.out];clear hW5;obtain⟨c6,c7,c8,c9,c10,c11,c12,c13⟩:=q1.cs8;have c14:=q2.c 0 rfl;have c15:=q2.c 1 rfl
 go_wp2_with fail
 refine(HE.out _ b3).mono ?_;rintro zz w16 ⟨rfl,bb17⟩;have b18:=aa b3 bb17;clear q1 q2 b3 bb17 HE c6 c7 c8 c9 c10 c11 c12 c13 c14 c15
 go_wp2
 go_ret3
 exact⟨rfl,b18⟩
theorem Rj (c:Int)(g:Bool)(n wy fam R D L G:Int)(gr:Bool)(x:ak)(xo:Option Addr)(xc:Nat)(fl f1 e1:Int)(st:ByteArray)(w:World)(h2:(c==2)=false)(h1:(c==1)=false)
  (HE:yH w 87 #[ykV n wy fam R D L G gr,yvV c g (.slice none 0 0) 0,yi fl] (.tuple #[.string st,yi f1,yi e1])):
  yC 107 #[ykV n wy fam R D L G gr,yOV c g x xo xc,yi fl] w (yR w (.tuple #[.string st,yi f1,yi e1])):=by
 replace HE:Hid _:=HE;obtain⟨W4,hW5,q1,q2,b3⟩:=iG w (ykL n wy fam R D L G gr) 93 (yOL c g x xo xc) 98;replace hW5:Hid _:=hW5
 go_enter func107,ntmps107
 go_upto_region 1 with fail
 rw[hW5.out];clear hW5;obtain⟨c6,c7,c8,c9,c10,c11,c12,c13⟩:=q1.cs8;have c14:=q2.c 0 rfl;have c15:=q2.c 1 rfl
 go_wp2_with fail
 refine(HE.out _ b3).mono ?_;rintro zz w16 ⟨rfl,bb17⟩;have b18:=aa b3 bb17;clear q1 q2 b3 bb17 HE c6 c7 c8 c9 c10 c11 c12 c13 c14 c15
 go_wp2
 go_ret3
 exact⟨rfl,b18⟩
theorem adz (x u:ak)(xo:Option Addr)(xc m:Nat)(bl sp ns tw E:Int)(w:World)(h1:IntKind.i64.wrap (bl-128)=sp)(h2: ¬sp≤0)(h3:IntKind.i64.wrap (-sp)=ns)(h4:IntKind.i64.wrap (x.e+sp)=E)
  (HD:yJ 172 #[yDV x xo xc] (.slice xo (Dg.dg 4294967296 x.n).length xc))
  (HB: ∀w1,yB w w1→yC 176 #[.slice xo (Dg.dg 4294967296 x.n).length xc] w1 fun z w'=>z= .returned (yi bl)∧w'=w1)
  (HT: ∀w1,yB w w1→yC 208 #[.slice xo (Dg.dg 4294967296 x.n).length xc] w1 fun z w'=>z= .returned (yi tw)∧w'=w1)
  (HS: ∀w1,yB w w1→yC 177 #[.slice xo (Dg.dg 4294967296 x.n).length xc,yi ns] w1 (Num w1 m))
  (HE: ∀mo mc w1,Rd w1 .u32 (.slice mo (Dg.dg 4294967296 m).length mc) (Dg.dg 4294967296 m)→yC 179 #[.bool x.s,.slice mo (Dg.dg 4294967296 m).length mc,yi E,.bool (decide (tw<sp))] w1 (jN w1 u)):
  yC 210 #[yDV x xo xc,yi 128] w fun z w'=> ∃v,z= .returned (ydV u.s v u.e)∧Rd w' .u32 v (Dg.dg 4294967296 u.n)∧yB w w':=by
 replace HD:Hid _:=HD;replace HB:Hid _:=HB;replace HT:Hid _:=HT;replace HS:Hid _:=HS;replace HE:Hid _:=HE;obtain⟨W4,hW5,q1,q2,b3⟩:=iG w (yDL x xo xc) 96 (ydL false (.slice none 0 0) 0) 96;replace hW5:Hid _:=hW5
 go_enter func210,ntmps210
 go_upto_region 1 with fail
 rw[hW5.out];clear hW5;obtain⟨c6,c7,c8⟩:=q1.cs3
 go_wp2_with fail
 refine(HD.out _).mono ?_;rintro zz w9 ⟨rfl,bb10⟩;have q11:=q1.l bb10;have q12:=q2.l bb10;have b13:=aa b3 bb10;clear q1 q2 b3 bb10 c6 c7 c8
 go_wp2_with fail
 refine(HB.out _ b13).mono ?_;rintro zz w14 ⟨rfl,rfl⟩
 go_upto_region 4 with fail
 have bW16:yB w14 w14.drew:=(Below.refl _ _).drew;have q17:=q11.l bW16;have q18:=q12.l bW16;have b19:=aa b13 bW16;clear q11 q12 b13 bW16;refine wp_region_held_drew (S:=fun wq=>au wq w.heap.size 96 (yDL x xo xc)) (by kernel_rfl) q17 (fun hS0=> ?_)
 generalize w14.drew=WD20 at q17 q18 b19 hS0⊢;refine tk 0 (.pointer (some ⟨w.heap.size,0,none⟩)) rfl (by kernel_rfl) (fun _ _ _ h=>h) (fun _ _=>by kernel_rfl) hS0 ?_
 refine tk 1 (.pointer (some ⟨w.heap.size,0,none⟩)) rfl (by kernel_rfl) (fun _ _ _ h=>h) (fun _ _=>by kernel_rfl) hS0 ?_
 refine tk 2 (.bool x.s) rfl (by kernel_rfl) (fun _ _ _ h=>h) (fun _ hw0=>gU 4 (.tmp 15) rfl w.heap.size 0 (by kernel_rfl) _ _ underlying4 rfl (hw0.c 0 rfl)) hS0 ?_
 refine tk 3 (yDV x xo xc) rfl (by kernel_rfl) (fun _ _ _ h=>h) (fun _ hw0=>fy 96 (.tmp 2) rfl w.heap.size 0 (by kernel_rfl) _ _ hw0.range underlying96 rfl (by kernel_rfl)) hS0 ?_
 refine tk 5 (yi sp) rfl (by kernel_rfl) (fun _ _ _ h=>h) (fun _ _=>by kernel_rfl) hS0 ?_
 refine tk 6 (yi ns) rfl (by kernel_rfl) (fun _ _ _ h=>h) (fun _ _=>by go_simp) hS0 ?_
 refine tk 8 (.pointer (some ⟨w.heap.size,0,none⟩)) rfl (by kernel_rfl) (fun _ _ _ h=>h) (fun _ _=>by kernel_rfl) hS0 ?_
 refine tk 9 (.pointer (some ⟨w.heap.size,2,none⟩)) rfl (by kernel_rfl) (fun _ _ _ h=>h) (fun _ _=>by kernel_rfl) hS0 ?_
 refine tk 10 (yi x.e) rfl (by kernel_rfl) (fun _ _ _ h=>h) (fun _ hw0=>gU 3 (.tmp 23) rfl w.heap.size 2 (by kernel_rfl) _ _ underlying3 rfl (hw0.c 2 rfl)) hS0 ?_
 refine tk 11 (yi sp) rfl (by kernel_rfl) (fun _ _ _ h=>h) (fun _ _=>by kernel_rfl) hS0 ?_
 refine tk 12 (yi E) rfl (by kernel_rfl) (fun _ _ _ h=>h) (fun _ _=>by go_simp) hS0 ?_
 refine tk 13 (yDV x xo xc) rfl (by kernel_rfl) (fun _ _ _ h=>h) (fun _ hw0=>fy 96 (.tmp 2) rfl w.heap.size 0 (by kernel_rfl) _ _ hw0.range underlying96 rfl (by kernel_rfl)) hS0 ?_
 refine tk 16 (yi sp) rfl (by kernel_rfl) (fun _ _ _ h=>h) (fun _ _=>by kernel_rfl) hS0 ?_
 refine wpAnyH_ready (rs:=[4]) (by kernel_rfl) (by simp) ?_;refine AllReadyH.cons rfl (fun K hK=> ?_) AllReadyH.nil
 go_simp
 refine(HD.out _).mono ?_;rintro zz w21 ⟨rfl,bb22⟩;have q23:=q17.l bb22;have q24:=q18.l bb22;have b25:=aa b19 bb22;clear q17 q18 b19 bb22;refine hK.out _ _ q23 (fun hS26=> ?_)
 clear hK K;refine wpAnyH_ready (rs:=[7]) (by kernel_rfl) (by simp) ?_;refine AllReadyH.cons rfl (fun K hK=> ?_) AllReadyH.nil
 go_simp
 refine(HS.out _ b25).mono ?_;rintro zz w27 ⟨v129,rfl,r130,bb28⟩;have q31:=q23.l bb28;have q32:=q24.l bb28;have b33:=aa b25 bb28;have r34:=r130.rd;obtain⟨mo,mc,hv⟩:=r34.shape;subst hv;clear q23 q24 b25 bb28 r130;refine hK.out _ _ q31 (fun hS35=> ?_)
 clear hK K;refine wpAnyH_ready (rs:=[14]) (by kernel_rfl) (by simp) ?_;refine AllReadyH.cons rfl (fun K hK=> ?_) AllReadyH.nil
 go_simp
 refine(HD.out _).mono ?_;rintro zz w36 ⟨rfl,bb37⟩;have q38:=q31.l bb37;have q39:=q32.l bb37;have r40:=r34.l bb37;have b41:=aa b33 bb37;clear q31 q32 r34 b33 bb37;refine hK.out _ _ q38 (fun hS42=> ?_)
 clear hK K;refine wpAnyH_ready (rs:=[15]) (by kernel_rfl) (by simp) ?_;refine AllReadyH.cons rfl (fun K hK=> ?_) AllReadyH.nil
 go_simp
 refine(HT.out _ b41).mono ?_;rintro zz w43 ⟨rfl,rfl⟩;refine hK.out _ _ q38 (fun hS45=> ?_)
 clear hK K;refine tk 17 (.bool (decide (tw<sp))) rfl (by kernel_rfl) (fun _ _ _ h=>h) (fun _ _=>by go_simp) hS45 ?_
 refine wpAnyH_ready (rs:=[18]) (by kernel_rfl) (by simp) ?_;refine AllReadyH.cons rfl (fun K hK=> ?_) AllReadyH.nil
 go_simp
 refine(HE.out _ _ _ r40).mono ?_;rintro zz w46 ⟨v148,rfl,r149,bb47⟩;have q50:=q38.l bb47;have q51:=q39.l bb47;have r52:=r40.l bb47;have b53:=aa b41 bb47;have r54:=r149.rd;obtain⟨uo,uc,hv⟩:=r54.shape;subst hv;clear q38 q39 r40 b41 bb47 r149;refine hK.out _ _ q50 (fun hS55=> ?_)
 clear hK K;refine wpAnyH_ready (rs:=[19]) (by kernel_rfl) (by simp) ?_;refine AllReadyH.cons rfl (fun K hK=> ?_) AllReadyH.nil
 have bu:But (w.heap.size+1) w46 (w46.setCells (w.heap.size+1) 0 (yDL u uo uc)):=de _ _ _ _;have hth:w46.there (w.heap.size+1) 0 3:=dD q51;have q56:au (w46.setCells (w.heap.size+1) 0 (yDL u uo uc)) (w.heap.size+1) 96 (yDL u uo uc):=q51.sets _ rfl;have r57:=bu.rd r52 (aX r52 q51 (by simp));have r58:=bu.rd r54 (aX r54 q51 (by simp));have q59:=bu.loc q50 (by omega);have b60:=bu.below b53 (by omega);rw[if_pos (by kernel_rfl)];refine wp_store_mid 96 (.tmp 4) (.tmp 32) rfl (w.heap.size+1) 0 (yDA u uo uc) (by kernel_rfl) (by kernel_rfl) hth (by kernel_rfl) (by simp[Value.oneCell']) ?_;refine hK.out _ _ q59 (fun hS61=> ?_)
 clear hK K;clear q51 r52 r54 q50 b53 bu hth;refine wpAnyH_done (by kernel_rfl) ?_ _;clear hS0 hS26 hS35 hS42 hS45 hS55 hS61;change Exit.then _ _ _ _ (World.setCells w46 (w.heap.size+1) 0 (yDL u uo uc));generalize World.setCells w46 (w.heap.size+1) 0 (yDL u uo uc)=W62 at q59 q56 r57 r58 b60⊢;simp only[Act.put,List.getElem_toArray,List.getElem_cons_succ,List.getElem_cons_zero];have hl:=run_loadVar_mid (P:=Tryz.prog) _ (w.heap.size+1) 0 96 (yDL u uo uc) _ q56.range underlying96 rfl (by kernel_rfl)
 go_wp2
 exact bodyPost_ret (br results210 rfl hl) rfl ⟨_,rfl,r58,b60⟩
theorem Rk (n way er:Int)(F m:Nat)(pb:Nat)(w:World)(he:(er==0)=false)
  (HD:yJ 80 #[yi n] (.tuple #[ykV 0 0 0 0 0 0 0 false,yi er])):
  yC 53 #[yi n,yi way,.func (.func F) #[] #[],.slice (some ⟨pb,0,none⟩) m m] w (yR w (.tuple #[.string ⟨#[]⟩,yi 0,yi er])):=by
 replace HD:Hid _:=HD
 go_enter func53,ntmps53
 have b0:=Below.refl w.heap.size w
 go_wp2_with fail
 refine(HD.out _).mono ?_;rintro zz w1 ⟨rfl,bb2⟩;have b3:=aa b0 bb2;clear b0 bb2 HD;obtain⟨W7,hW6,q5,al4⟩:=cA w1 (ykL 0 0 0 0 0 0 0 false) 93;replace hW6:Hid _:=hW6;have hl8:w.heap.size≤w1.heap.size:=b3.size;have b9:=aa b3 al4;clear b3 al4 q5
 go_upto_region 2 with fail
 rw[hW6.out];clear hW6
 go_wp2
 go_ret3
 exact⟨rfl,b9⟩
theorem Rl (er:Int)(n R D L G fam way:Int)(gr:Bool)(F m:Nat)(pb:Nat)(w:World)(he:(er==0)=false)
  (HD:yJ 80 #[yi n] (.tuple #[ykV n 0 fam R D L G gr,yi 0]))
  (HO:yH w 81 #[ykV n 0 fam R D L G gr,.slice (some ⟨pb,0,none⟩) m m] (.tuple #[.slice none 0 0,yi er])):
  yC 53 #[yi n,yi way,.func (.func F) #[] #[],.slice (some ⟨pb,0,none⟩) m m] w (yR w (.tuple #[.string ⟨#[]⟩,yi 0,yi er])):=by
 replace HD:Hid _:=HD;replace HO:Hid _:=HO
 go_enter func53,ntmps53
 have b0:=Below.refl w.heap.size w
 go_wp2_with fail
 refine(HD.out _).mono ?_;rintro zz w1 ⟨rfl,bb2⟩;have b3:=aa b0 bb2;clear b0 bb2 HD;obtain⟨W7,hW6,q5,al4⟩:=cA w1 (ykL n 0 fam R D L G gr) 93;replace hW6:Hid _:=hW6;have hl8:w.heap.size≤w1.heap.size:=b3.size;have b9:=aa b3 al4;clear b3 al4
 go_upto_region 2 with fail
 rw[hW6.out];clear hW6;obtain⟨c10,c11,c12,c13,c14,c15,c16,c17⟩:=q5.cs8
 go_wp2_with fail
 refine(HO.out _ b9).mono ?_;rintro zz w18 ⟨rfl,bb19⟩;have b20:=aa b9 bb19;clear q5 b9 bb19 HO c10 c11 c12 c13 c14 c15 c16 c17
 go_wp2
 go_ret3
 exact⟨rfl,b20⟩
theorem NX (n R D L G fam way:Int)(gr:Bool)(F m:Nat)(ps:List ByteArray)(pb:Nat)(w:World)(hw:way<1)
  (HD:yJ 80 #[yi n] (.tuple #[ykV n 0 fam R D L G gr,yi 0]))
  (HO: ∀w1,yB w w1→yC 81 #[ykV n 0 fam R D L G gr,.slice (some ⟨pb,0,none⟩) m m] w1 fun z w'=> ∃g cap,z= .returned (.tuple #[.slice (some ⟨g,0,none⟩) m cap,yi 0])∧sF w' n ps g cap∧w1.heap.size≤g∧yB w1 w'):
  yC 53 #[yi n,yi way,.func (.func F) #[] #[],.slice (some ⟨pb,0,none⟩) m m] w (yR w (.tuple #[.string ⟨#[]⟩,yi 0,yi 6])):=by
 replace HD:Hid _:=HD;replace HO:Hid _:=HO
 go_enter func53,ntmps53
 have b0:=Below.refl w.heap.size w
 go_wp2_with fail
 refine(HD.out _).mono ?_;rintro zz w1 ⟨rfl,bb2⟩;have b3:=aa b0 bb2;clear b0 bb2 HD;obtain⟨W7,hW6,q5,al4⟩:=cA w1 (ykL n 0 fam R D L G gr) 93;replace hW6:Hid _:=hW6;have hl8:w.heap.size≤w1.heap.size:=b3.size;have b9:=aa b3 al4;clear b3 al4
 go_upto_region 2 with fail
 rw[hW6.out];clear hW6;obtain⟨c10,c11,c12,c13,c14,c15,c16,c17⟩:=q5.cs8;have hq:=q5.lt
 go_wp2_with fail
 refine(HO.out _ b9).mono ?_;rintro zz w18 ⟨g,cap,rfl,r120,hgw,bb19⟩;have b21:=aa b9 bb19;clear q5 b9 bb19 HO c10 c11 c12 c13 c14 c15 c16 c17
 go_wp2
 go_ret3
 exact⟨rfl,b21⟩
theorem NY (n R D L G fam way:Int)(gr:Bool)(F m:Nat)(ps:List ByteArray)(pb:Nat)(w:World)(hw: ¬way<1)(hv:5<way)
  (HD:yJ 80 #[yi n] (.tuple #[ykV n 0 fam R D L G gr,yi 0]))
  (HO: ∀w1,yB w w1→yC 81 #[ykV n 0 fam R D L G gr,.slice (some ⟨pb,0,none⟩) m m] w1 fun z w'=> ∃g cap,z= .returned (.tuple #[.slice (some ⟨g,0,none⟩) m cap,yi 0])∧sF w' n ps g cap∧w1.heap.size≤g∧yB w1 w'):
  yC 53 #[yi n,yi way,.func (.func F) #[] #[],.slice (some ⟨pb,0,none⟩) m m] w (yR w (.tuple #[.string ⟨#[]⟩,yi 0,yi 6])):=by
 replace HD:Hid _:=HD;replace HO:Hid _:=HO
 go_enter func53,ntmps53
 have b0:=Below.refl w.heap.size w
 go_wp2_with fail
 refine(HD.out _).mono ?_;rintro zz w1 ⟨rfl,bb2⟩;have b3:=aa b0 bb2;clear b0 bb2 HD;obtain⟨W7,hW6,q5,al4⟩:=cA w1 (ykL n 0 fam R D L G gr) 93;replace hW6:Hid _:=hW6;have hl8:w.heap.size≤w1.heap.size:=b3.size;have b9:=aa b3 al4;clear b3 al4
 go_upto_region 2 with fail
 rw[hW6.out];clear hW6;obtain⟨c10,c11,c12,c13,c14,c15,c16,c17⟩:=q5.cs8;have hq:=q5.lt
 go_wp2_with fail
 refine(HO.out _ b9).mono ?_;rintro zz w18 ⟨g,cap,rfl,r120,hgw,bb19⟩;have b21:=aa b9 bb19;clear q5 b9 bb19 HO c10 c11 c12 c13 c14 c15 c16 c17
 go_wp2
 go_ret3
 exact⟨rfl,b21⟩
theorem Rm (c f1 e1:Int)(st:ByteArray)(n R D L G way:Int)(gr:Bool)(F m:Nat)(ps:List ByteArray)(pb:Nat)(w:World)(hw: ¬way<1)(hv: ¬5<way)
  (HD:yJ 80 #[yi n] (.tuple #[ykV n 0 1 R D L G gr,yi 0]))
  (HO: ∀w1,yB w w1→yC 81 #[ykV n 0 1 R D L G gr,.slice (some ⟨pb,0,none⟩) m m] w1 fun z w'=> ∃g cap,z= .returned (.tuple #[.slice (some ⟨g,0,none⟩) m cap,yi 0])∧sF w' n ps g cap∧w1.heap.size≤g∧yB w1 w')
  (HX: ∀g cap w1,sF w1 n ps g cap→yC 82 #[.slice (some ⟨g,0,none⟩) m cap] w1 (yR w1 (.bool true)))
  (HN:yJ 108 #[ykV n way 1 R D L G gr,yi 0] (.tuple #[yoV c false false (.slice none 0 0) 0,yi 0]))
  (HA:yH w 107 #[ykV n way 1 R D L G gr,yoV c false false (.slice none 0 0) 0,yi 0] (.tuple #[.string st,yi f1,yi e1])):
  yC 53 #[yi n,yi way,.func (.func F) #[] #[],.slice (some ⟨pb,0,none⟩) m m] w (yR w (.tuple #[.string st,yi f1,yi e1])):=by
 replace HD:Hid _:=HD;replace HO:Hid _:=HO;replace HX:Hid _:=HX;replace HN:Hid _:=HN;replace HA:Hid _:=HA
 go_enter func53,ntmps53
 have b0:=Below.refl w.heap.size w
 go_wp2_with fail
 refine(HD.out _).mono ?_;rintro zz w1 ⟨rfl,bb2⟩;have b3:=aa b0 bb2;clear b0 bb2 HD;obtain⟨W7,hW6,q5,al4⟩:=cA w1 (ykL n 0 1 R D L G gr) 93;replace hW6:Hid _:=hW6;have hl8:w.heap.size≤w1.heap.size:=b3.size;have b9:=aa b3 al4;clear b3 al4
 go_upto_region 2 with fail
 rw[hW6.out];clear hW6;obtain⟨c10,c11,c12,c13,c14,c15,c16,c17⟩:=q5.cs8;have hq:=q5.lt
 go_wp2_with fail
 refine(HO.out _ b9).mono ?_;rintro zz w18 ⟨g,cap,rfl,r120,hgw,bb19⟩;have q21:=q5.l bb19;have b22:=aa b9 bb19;clear q5 b9 bb19 HO c10 c11 c12 c13 c14 c15 c16 c17;have bu:=ag w18 w1.heap.size 1 (yi way);have q23:au (w18.setCell ⟨w1.heap.size,1,none⟩ (yi way)) w1.heap.size 93 (ykL n way 1 R D L G gr):=(q21.set 1 (yi way));have c24:=q21.c 1 rfl;have y25:=q21.f 1;have r26:=r120.off bu q21 (by simp) (by omega);have b27:=bu.below b22 (by omega);clear bu
 go_upto_region 10 with fail
 generalize w18.setCell ⟨w1.heap.size,1,none⟩ (yi way)=W28 at q23 r26 b27⊢;clear q21 r120 b22 c24 y25
 go_wp2_with fail
 refine(HX.out _ _ _ r26).mono ?_;rintro zz w29 ⟨rfl,bb30⟩;have q31:=q23.l bb30;have b32:=aa b27 bb30;clear q23 r26 b27 bb30 HX;have c33:=q31.c 2 rfl
 go_upto_region 13 with fail
 clear c33;have bW34:yB w29 w29.drew:=(Below.refl _ _).drew;have q35:=q31.l bW34;have b36:=aa b32 bW34;clear q31 b32 bW34;refine wp_region_held_drew (S:=fun wq=>au wq w1.heap.size 93 (ykL n way 1 R D L G gr)) (by kernel_rfl) q35 (fun hS0=> ?_)
 generalize w29.drew=WD37 at q35 b36 hS0⊢;refine tk 0 (ykV n way 1 R D L G gr) rfl (by kernel_rfl) (fun _ _ _ h=>h) (fun _ hw0=>fy 93 (.tmp 11) rfl w1.heap.size 0 (by kernel_rfl) _ _ hw0.range underlying93 rfl (by kernel_rfl)) hS0 ?_
 refine tk 1 (ykV n way 1 R D L G gr) rfl (by kernel_rfl) (fun _ _ _ h=>h) (fun _ hw0=>fy 93 (.tmp 11) rfl w1.heap.size 0 (by kernel_rfl) _ _ hw0.range underlying93 rfl (by kernel_rfl)) hS0 ?_
 refine wpAnyH_ready (rs:=[2]) (by kernel_rfl) (by simp) ?_;refine AllReadyH.cons rfl (fun K hK=> ?_) AllReadyH.nil
 go_simp
 refine(HN.out _).mono ?_;rintro zz w38 ⟨rfl,bb39⟩;have q40:=q35.l bb39;have b41:=aa b36 bb39;clear q35 b36 bb39 HN;refine hK.out _ _ q40 (fun hS42=> ?_)
 clear hK K;refine tk 3 (yoV c false false (.slice none 0 0) 0) rfl (by kernel_rfl) (fun _ _ _ h=>h) (fun _ _=>by go_simp) hS42 ?_
 refine tk 4 (yi 0) rfl (by kernel_rfl) (fun _ _ _ h=>h) (fun _ _=>by go_simp) hS42 ?_
 refine wpAnyH_ready (rs:=[5]) (by kernel_rfl) (by simp) ?_;refine AllReadyH.cons rfl (fun K hK=> ?_) AllReadyH.nil
 go_simp
 refine(HA.out _ b41).mono ?_;rintro zz w43 ⟨rfl,bb44⟩;have q45:=q40.l bb44;have b46:=aa b41 bb44;clear q40 b41 bb44 HA;refine hK.out _ _ q45 (fun hS47=> ?_)
 clear hK K;refine tk 6 (.string st) rfl (by kernel_rfl) (fun _ _ _ h=>h) (fun _ _=>by go_simp) hS47 ?_
 refine tk 7 (yi f1) rfl (by kernel_rfl) (fun _ _ _ h=>h) (fun _ _=>by go_simp) hS47 ?_
 refine tk 8 (yi e1) rfl (by kernel_rfl) (fun _ _ _ h=>h) (fun _ _=>by go_simp) hS47 ?_
 refine tk 9 (.string st) rfl (by kernel_rfl) (fun _ _ _ h=>h) (fun _ _=>by kernel_rfl) hS47 ?_
 refine tk 10 (yi f1) rfl (by kernel_rfl) (fun _ _ _ h=>h) (fun _ _=>by kernel_rfl) hS47 ?_
 refine tk 11 (yi e1) rfl (by kernel_rfl) (fun _ _ _ h=>h) (fun _ _=>by kernel_rfl) hS47 ?_
 refine wpAnyH_done (by kernel_rfl) ?_ _;clear hS0 hS42 hS47;simp only[Act.put,List.getElem_toArray,List.getElem_cons_succ,List.getElem_cons_zero,List.setIfInBounds_toArray,List.set_cons_zero,List.set_cons_succ]
 go_wp2
 go_ret3
 exact⟨rfl,b46⟩
theorem Rn (c f1 e1:Int)(st:ByteArray)(n R D L G fam way:Int)(gr:Bool)(F m:Nat)(ps:List ByteArray)(pb:Nat)(w:World)(hw: ¬way<1)(hv: ¬5<way)(hf:(fam==1)=false)
  (HD:yJ 80 #[yi n] (.tuple #[ykV n 0 fam R D L G gr,yi 0]))
  (HO: ∀w1,yB w w1→yC 81 #[ykV n 0 fam R D L G gr,.slice (some ⟨pb,0,none⟩) m m] w1 fun z w'=> ∃g cap,z= .returned (.tuple #[.slice (some ⟨g,0,none⟩) m cap,yi 0])∧sF w' n ps g cap∧w1.heap.size≤g∧yB w1 w')
  (HX: ∀g cap w1,sF w1 n ps g cap→yC 82 #[.slice (some ⟨g,0,none⟩) m cap] w1 (yR w1 (.bool true)))
  (HN:yJ 108 #[ykV n way fam R D L G gr,yi 16] (.tuple #[yoV c false false (.slice none 0 0) 0,yi 16]))
  (HA:yH w 107 #[ykV n way fam R D L G gr,yoV c false false (.slice none 0 0) 0,yi 16] (.tuple #[.string st,yi f1,yi e1])):
  yC 53 #[yi n,yi way,.func (.func F) #[] #[],.slice (some ⟨pb,0,none⟩) m m] w (yR w (.tuple #[.string st,yi f1,yi e1])):=by
 replace HD:Hid _:=HD;replace HO:Hid _:=HO;replace HX:Hid _:=HX;replace HN:Hid _:=HN;replace HA:Hid _:=HA
 go_enter func53,ntmps53
 have b0:=Below.refl w.heap.size w
 go_wp2_with fail
 refine(HD.out _).mono ?_;rintro zz w1 ⟨rfl,bb2⟩;have b3:=aa b0 bb2;clear b0 bb2 HD;obtain⟨W7,hW6,q5,al4⟩:=cA w1 (ykL n 0 fam R D L G gr) 93;replace hW6:Hid _:=hW6;have hl8:w.heap.size≤w1.heap.size:=b3.size;have b9:=aa b3 al4;clear b3 al4
 go_upto_region 2 with fail
 rw[hW6.out];clear hW6;obtain⟨c10,c11,c12,c13,c14,c15,c16,c17⟩:=q5.cs8;have hq:=q5.lt
 go_wp2_with fail
 refine(HO.out _ b9).mono ?_;rintro zz w18 ⟨g,cap,rfl,r120,hgw,bb19⟩;have q21:=q5.l bb19;have b22:=aa b9 bb19;clear q5 b9 bb19 HO c10 c11 c12 c13 c14 c15 c16 c17;have bu:=ag w18 w1.heap.size 1 (yi way);have q23:au (w18.setCell ⟨w1.heap.size,1,none⟩ (yi way)) w1.heap.size 93 (ykL n way fam R D L G gr):=(q21.set 1 (yi way));have c24:=q21.c 1 rfl;have y25:=q21.f 1;have r26:=r120.off bu q21 (by simp) (by omega);have b27:=bu.below b22 (by omega);clear bu
 go_upto_region 10 with fail
 generalize w18.setCell ⟨w1.heap.size,1,none⟩ (yi way)=W28 at q23 r26 b27⊢;clear q21 r120 b22 c24 y25
 go_wp2_with fail
 refine(HX.out _ _ _ r26).mono ?_;rintro zz w29 ⟨rfl,bb30⟩;have q31:=q23.l bb30;have b32:=aa b27 bb30;clear q23 r26 b27 bb30 HX;have c33:=q31.c 2 rfl
 go_upto_region 14 with fail
 clear c33;have bW34:yB w29 w29.drew:=(Below.refl _ _).drew;have q35:=q31.l bW34;have b36:=aa b32 bW34;clear q31 b32 bW34;refine wp_region_held_drew (S:=fun wq=>au wq w1.heap.size 93 (ykL n way fam R D L G gr)) (by kernel_rfl) q35 (fun hS0=> ?_)
 generalize w29.drew=WD37 at q35 b36 hS0⊢;refine tk 0 (ykV n way fam R D L G gr) rfl (by kernel_rfl) (fun _ _ _ h=>h) (fun _ hw0=>fy 93 (.tmp 11) rfl w1.heap.size 0 (by kernel_rfl) _ _ hw0.range underlying93 rfl (by kernel_rfl)) hS0 ?_
 refine tk 1 (ykV n way fam R D L G gr) rfl (by kernel_rfl) (fun _ _ _ h=>h) (fun _ hw0=>fy 93 (.tmp 11) rfl w1.heap.size 0 (by kernel_rfl) _ _ hw0.range underlying93 rfl (by kernel_rfl)) hS0 ?_
 refine wpAnyH_ready (rs:=[2]) (by kernel_rfl) (by simp) ?_;refine AllReadyH.cons rfl (fun K hK=> ?_) AllReadyH.nil
 go_simp
 refine(HN.out _).mono ?_;rintro zz w38 ⟨rfl,bb39⟩;have q40:=q35.l bb39;have b41:=aa b36 bb39;clear q35 b36 bb39 HN;refine hK.out _ _ q40 (fun hS42=> ?_)
 clear hK K;refine tk 3 (yoV c false false (.slice none 0 0) 0) rfl (by kernel_rfl) (fun _ _ _ h=>h) (fun _ _=>by go_simp) hS42 ?_
 refine tk 4 (yi 16) rfl (by kernel_rfl) (fun _ _ _ h=>h) (fun _ _=>by go_simp) hS42 ?_
 refine wpAnyH_ready (rs:=[5]) (by kernel_rfl) (by simp) ?_;refine AllReadyH.cons rfl (fun K hK=> ?_) AllReadyH.nil
 go_simp
 refine(HA.out _ b41).mono ?_;rintro zz w43 ⟨rfl,bb44⟩;have q45:=q40.l bb44;have b46:=aa b41 bb44;clear q40 b41 bb44 HA;refine hK.out _ _ q45 (fun hS47=> ?_)
 clear hK K;refine tk 6 (.string st) rfl (by kernel_rfl) (fun _ _ _ h=>h) (fun _ _=>by go_simp) hS47 ?_
 refine tk 7 (yi f1) rfl (by kernel_rfl) (fun _ _ _ h=>h) (fun _ _=>by go_simp) hS47 ?_
 refine tk 8 (yi e1) rfl (by kernel_rfl) (fun _ _ _ h=>h) (fun _ _=>by go_simp) hS47 ?_
 refine tk 9 (.string st) rfl (by kernel_rfl) (fun _ _ _ h=>h) (fun _ _=>by kernel_rfl) hS47 ?_
 refine tk 10 (yi f1) rfl (by kernel_rfl) (fun _ _ _ h=>h) (fun _ _=>by kernel_rfl) hS47 ?_
 refine tk 11 (yi e1) rfl (by kernel_rfl) (fun _ _ _ h=>h) (fun _ _=>by kernel_rfl) hS47 ?_
 refine wpAnyH_done (by kernel_rfl) ?_ _;clear hS0 hS42 hS47;simp only[Act.put,List.getElem_toArray,List.getElem_cons_succ,List.getElem_cons_zero,List.setIfInBounds_toArray,List.set_cons_zero,List.set_cons_succ]
 go_wp2
 go_ret3
 exact⟨rfl,b46⟩
end Go.Proofs.YtnhackdjplppjaaGreatDoor

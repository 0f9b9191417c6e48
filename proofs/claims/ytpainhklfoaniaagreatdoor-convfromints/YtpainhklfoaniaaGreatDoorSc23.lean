/-
  Texts laid together: Gk2, Gr6, Gr7.
-/
import Derived.Test.YtpainhklfoaniaaGreatDoorSc22
set_option maxRecDepth 100000
set_option maxHeartbeats 3200000
namespace Go.Proofs.YtpainhklfoaniaaGreatDoor
open _root_.Go.Proofs.Tryz
open Go.RowKit
theorem lU {n:Nat}(h:n≠0)(E:Int):dY n 1 E=(bitLen n:Int)-1+E:=by
 obtain⟨b1,b2,b3⟩:=uB n h;have t1:=(BC n 1 0 (bitLen n-1) h (by omega)).1 (by simpa using b2);have t2: ¬((bitLen n:Nat):Int)≤dY n 1 0+((0:Nat):Int):=fun c=>by
  have:=(BC n 1 0 (bitLen n) h (by omega)).2 c;simp at this;omega
 rw[qD];omega
theorem nV (s:Bool)(n:Nat)(e k:Int)(hk:k≤e+(tz n:Int)):eZ n (e-k) % dX 1 (e-k)=0∧bare ⟨s,eZ n (e-k)/dX 1 (e-k),k⟩=bare ⟨s,n,e⟩:=by
 by_cases h0:n=0
 ·subst h0
  have e1:eZ 0 (e-k)=0:=by rw[fw];simp
  rw[e1];simp[bare]
 ·by_cases hle:k≤e
  ·have e1:dX 1 (e-k)=1:=by rw[eM,show(-(e-k)).toNat=0 by omega]
   rw[e1,fw,Nat.mod_one,Nat.div_one];refine⟨rfl, ?_⟩;refine fH (K:=(max (-k) 0).toNat) (by simp only;omega) (by simp only;omega) ?_;rw[eV,eV];simp only;rw[Nat.mul_assoc,←Nat.pow_add,show(e-k).toNat+(k+((max (-k) 0).toNat:Int)).toNat=(e+((max (-k) 0).toNat:Int)).toNat by omega]
  ·obtain⟨m,hm⟩:=fO h0
   obtain⟨q,hq⟩: ∃q,n=q*2^ (k-e).toNat:=by
    refine⟨2^ (tz n-(k-e).toNat)*(2*m+1), ?_⟩;rw[Nat.mul_right_comm,←Nat.pow_add,show tz n-(k-e).toNat+(k-e).toNat=tz n by omega]
    exact hm
   have e1:eZ n (e-k)=n:=by rw[fw,show(e-k).toNat=0 by omega,Nat.pow_zero,Nat.mul_one]
   have e2:dX 1 (e-k)=2^ (k-e).toNat:=by rw[eM,Nat.one_mul,show-(e-k)=k-e by omega]
   rw[e1,e2,hq,Nat.mul_mod_left,Nat.mul_div_cancel _ (bG _)];refine⟨rfl, ?_⟩;refine fH (K:=(max (-e) 0).toNat) (by simp only;omega) (by simp only;omega) ?_;rw[eV,eV];simp only;rw[Nat.mul_assoc,←Nat.pow_add,show(k-e).toNat+(e+((max (-e) 0).toNat:Int)).toNat=(k+((max (-e) 0).toNat:Int)).toNat by omega]
theorem mC {R D L G:Int}{gr s:Bool}{n:Nat}{e way:Int}(h1:1≤D)(hLG:L≤G)(h0:n≠0)(hh:dA R D L G gr n e=true):
  (cI R D L G gr s n 1 e way).ov=false∧((cI R D L G gr s n 1 e way).un=false∨gr=true)∧bare ⟨(cI R D L G gr s n 1 e way).s,(cI R D L G gr s n 1 e way).d,(ai R:Int)*(cI R D L G gr s n 1 e way).p⟩=bare ⟨s,n,e⟩:=by
 have hM:(1:Nat)≠0:=by omega
 have hs:L≤cP R D L gr n e∧cP R D L gr n e≤G∧(ai R:Int)*cP R D L gr n e≤e+(tz n:Int):=by
  unfold dA at hh
  rcases of_decide_eq_true hh with h|h
  ·exact absurd h h0
  ·exact h
 have hc:dj R D L gr n 1 e=cP R D L gr n e:=by
  unfold dj cP;rw[lU h0]
 obtain⟨p1,p2⟩:=nV s n e ((ai R:Int)*cP R D L gr n e) hs.2.2;have hl:gF R D L gr n 1 e=0:=by
  unfold gF shP;rw[hc];exact p1
 have hd:fM R D L gr s n 1 e way=cH R D L gr n 1 e:=by
  unfold fM;rw[if_neg];rintro⟨c,-⟩;exact of_decide_eq_false c hl
 obtain⟨c1,c2⟩:=uh R D L gr n 1 e h1 h0 hM (dj R D L gr n 1 e);have hw:cH R D L gr n 1 e=eZ n (e-(ai R:Int)*cP R D L gr n e)/dX 1 (e-(ai R:Int)*cP R D L gr n e):=by
  unfold cH shP;rw[hc]
 rw[kJ gr s n 1 e way h1 hLG h0 hM,hd,c1,c2,hc];refine⟨decide_eq_false (by omega), ?_, ?_⟩
 ·by_cases hg:gr=true
  ·exact .inr hg
  ·refine .inl (decide_eq_false fun c=> ?_)
   have e1:cP R D L gr n e=aT R D (dY n 1 e):=by
    unfold cP;rw[lU h0,if_neg];intro c2;exact hg (Bool.and_eq_true_iff.1 c2).2
   omega
 ·show bare ⟨s,cH R D L gr n 1 e,(ai R:Int)*(if cH R D L gr n 1 e=0 then 0 else cP R D L gr n e)⟩=_
  by_cases hz:cH R D L gr n 1 e=0
  ·rw[←p2,←hw,hz]
   simp[bare]
  ·rw[if_neg hz,hw,p2]
theorem nW {R D L G:Int}{gr qs:Bool}{N M:Nat}{E way:Int}(h1:1≤D)(hLG:L≤G)(hN:N≠0)(hM:M≠0)(ho:(cI R D L G gr qs N M E way).ov=false)(hu:(cI R D L G gr qs N M E way).un=false∨gr=true):
  ((cI R D L G gr qs N M E way).d=0∧(cI R D L G gr qs N M E way).p=0)∨((cI R D L G gr qs N M E way).d≠0∧L≤(cI R D L G gr qs N M E way).p∧(cI R D L G gr qs N M E way).p≤G∧(cI R D L G gr qs N M E way).d<2^ (ai R*D.toNat)∧(2^ (ai R*(D-1).toNat)≤(cI R D L G gr qs N M E way).d∨(gr=true∧(cI R D L G gr qs N M E way).p=L))):=by
 rw[kJ gr qs N M E way h1 hLG hN hM] at ho hu⊢;simp only at ho hu⊢;have hov:=of_decide_eq_false ho
 by_cases hz:io R D (fM R D L gr qs N M E way)=0
 ·exact .inl ⟨hz,if_pos hz⟩
 ·refine .inr ⟨hz, ?_⟩
  rw[if_neg hz];have hwl:=rP R D L gr N M E h1 hN hM;have hge:=KL R D L gr qs N M E way;have hle:fM R D L gr qs N M E way≤cH R D L gr N M E+1:=by
   unfold fM
   split<;>omega
  have hpw:2^ (ai R*(D-1).toNat)<2^ (ai R*D.toNat):=by
   refine Nat.pow_lt_pow_right (by omega) ?_;exact Nat.mul_lt_mul_of_pos_left (by omega) (by have:=eN R;omega)
  have hcut:L≤dj R D L gr N M E∧(dj R D L gr N M E=aT R D (dY N M E)∨(gr=true∧dj R D L gr N M E=L)):=by
   unfold dj
   by_cases hc:(decide (aT R D (dY N M E)<L)&&gr)=true
   ·rw[if_pos hc]
    exact⟨Int.le_refl _,.inr ⟨(Bool.and_eq_true_iff.1 hc).2,rfl⟩⟩
   ·rw[if_neg hc]
    refine⟨?_,.inl rfl⟩
    rcases hu with hu|hu
    ·have:=of_decide_eq_false hu
     omega
    ·rw[hu,Bool.and_true] at hc
     have: ¬aT R D (dY N M E)<L:=fun c=>hc (decide_eq_true c)
     omega
  unfold io gD at*
  by_cases hq:fM R D L gr qs N M E way=2^ (ai R*D.toNat)
  ·rw[if_pos hq] at hov⊢
   rw[if_pos hq];exact⟨by omega,by omega,hpw,.inl (Nat.le_refl _)⟩
  ·rw[if_neg hq] at hov⊢
   rw[if_neg hq];refine⟨hcut.1,by omega,by omega, ?_⟩
   rcases hcut.2 with h|h
   ·refine .inl (Nat.le_trans ?_ hge)
    have:=mt (xx R D (aT R D (dY N M E)) N M E h1 hN hM).1 (Int.lt_irrefl _);rw[pP] at this;unfold cH shP;rw[h];omega
   ·exact .inr h
def sq (w:World)(c:Int)(t:fz)(e:Ending)(w':World):Prop:=
 ∃v,e= .returned (.tuple #[ypV t.s v t.p t.ex t.ov t.un,yi c])∧Own w' w.heap.size 108 .u32 v (Dg.dg 4294967296 t.d)∧yB w w'
def oI:fz:=⟨false,0,0,false,false,false⟩
theorem GD {P:Program}(w:World)(d:Nat){t:TypeId}{ps rs:Array TypeId}{vd:Bool}(h:P.underlying t=some (.func ps rs vd))(f:Fn)(a b:Array Value):(Op.equalIn (d+1) t (.func f a b) .nilFunc).run P w= .ok false w:=by
 simp[Op.equalIn,run_underlying h]
theorem DE {P:Program}(w:World)(d:Nat){t:TypeId}{ps rs:Array TypeId}{vd:Bool}(h:P.underlying t=some (.func ps rs vd)):(Op.equalIn (d+1) t .nilFunc .nilFunc).run P w= .ok true w:=by
 simp[Op.equalIn,run_underlying h]
theorem Rq {P:Program}(w:World){t:TypeId}{ps rs:Array TypeId}{vd:Bool}(h:P.underlying t=some (.func ps rs vd))(f:Fn)(a b:Array Value):(binOp .eql t (.func f a b) .nilFunc).run P w= .ok (.bool false) w:=by
 simp only[binOp];simp[Op.equal,Op.maxDepth,GD w 9999 h f a b]
theorem Oa {P:Program}(w:World){t:TypeId}{ps rs:Array TypeId}{vd:Bool}(h:P.underlying t=some (.func ps rs vd)):(binOp .eql t .nilFunc .nilFunc).run P w= .ok (.bool true) w:=by
 simp only[binOp];simp[Op.equal,Op.maxDepth,DE w 9999 h]
theorem Ob (R D L G:Int)(gr:Bool)(qs:Bool)(no:Option Addr)(nl nc:Nat)(eo:Option Addr)(el ec:Nat)(E way:Int)(c:Int)(fv:Value)(fn:FuncId)(isf z:Bool)(PT:fz)(ac:Int)(at_:fz)(w:World)
  (hfv:isf=true→fv= .func (.func fn) #[] #[]) (hfn:isf=false→fv= .nilFunc) (hz:((nl:Int)==0)=z)
  (HB: ¬c=0→ac=c∧at_=oI) (HK:c=0→isf=false→ac=6∧at_=oI) (HZ:c=0→isf=true→z=true→ac=0∧at_=⟨false,0,0,true,false,false⟩) (HG:c=0→isf=true→z=false→ac=0∧at_=PT)
  (HW:yH w 84 #[yrV qs (.slice no nl nc) (.slice eo el ec) E,ygV R D L G gr] (yi c))
  (HL: ∀w1 r,w1.heap[r]? =some (.map Yd 5)→(Instr.lookup 157 (.map (some r)) (yi way) false).run Tryz.prog w1= .ok fv w1)
  (HR:c=0→isf=true→z=false→ ∀w1,yB w w1→yC 86 #[ygV R D L G gr,yrV qs (.slice no nl nc) (.slice eo el ec) E,.func (.func fn) #[] #[]] w1 (Fk w1 PT)):
  yC 56 #[yrV qs (.slice no nl nc) (.slice eo el ec) E,ygV R D L G gr,yi way] w (sq w ac at_):=by
 replace HB:Hid _:=HB;replace HK:Hid _:=HK;replace HZ:Hid _:=HZ;replace HG:Hid _:=HG;replace HW:Hid _:=HW;replace HL:Hid _:=HL;replace HR:Hid _:=HR;replace hfv:Hid _:=hfv;replace hfn:Hid _:=hfn;have HWY:Hid _:=Ye;have b1:=aa (aa (af w (.cells (yrA qs (.slice no nl nc) (.slice eo el ec) E) 91)) (af _ (.cells (ygA R D L G gr) 26))) (af _ (.cells (ypA false yN 0 false false false) 112));have q1:=((ah w (yrL qs (.slice no nl nc) (.slice eo el ec) E) 91).l (af _ (.cells (ygA R D L G gr) 26))).l (af _ (.cells (ypA false yN 0 false false false) 112));have g1:=(ah (w.alloc (.cells (yrA qs (.slice no nl nc) (.slice eo el ec) E) 91)) (ygL R D L G gr) 26).l (af _ (.cells (ypA false yN 0 false false false) 112));have c1:=ah ((w.alloc (.cells (yrA qs (.slice no nl nc) (.slice eo el ec) E) 91)).alloc (.cells (ygA R D L G gr) 26)) (ypL false yN 0 false false false) 112;simp only[World.size_alloc] at g1 c1;obtain⟨x0,x1,x2,x3⟩:=q1.cs4;obtain⟨y0,y1,y2,y3,y4⟩:=g1.cs5;have en:=fun w1=>Oa (P:=Tryz.prog) w1 underlying156
 have ef:=fun w1=>Rq (P:=Tryz.prog) w1 underlying156 (.func fn) #[] #[]
 go_enter func56,ntmps56
 go_wp2_with fail
 refine(HW.out _ b1).mono ?_;rintro z wa ⟨rfl,bb2⟩;have q_2:=q1.l bb2;have g_2:=g1.l bb2;have c_2:=c1.l bb2;have b0_2:=aa b1 bb2;clear q1 g1 c1 b1 bb2;clear x0 x1 x2 x3 y0 y1 y2 y3 y4
 by_cases hc:c=0
 ·have HK2:Hid _:=HK.out hc
  have HZ2:Hid _:=HZ.out hc;have HG2:Hid _:=HG.out hc;have HR2:Hid _:=HR.out hc;clear HB HK HZ HG HR;subst hc
  go_wp2_with fail
  refine(HWY.out _).mono ?_;rintro z wb ⟨rfl,hm,bb3⟩;have q_3:=q_2.l bb3;have g_3:=g_2.l bb3;have c_3:=c_2.l bb3;have b0_3:=aa b0_2 bb3;clear q_2 g_2 c_2 b0_2 bb3;have hl:=HL.out wb _ hm;clear hm
  cases isf
  ·have hf:=hfn.out rfl
   have HF:Hid _:=HK2.out rfl;clear HK2 HZ2 HG2 HR2 hfn hfv;subst hf;have s0:=c_3.c 0 rfl;have f0:=c_3.f 0;have s1:=c_3.c 1 rfl;have f1:=c_3.f 1;have s2:=c_3.c 2 rfl;have f2:=c_3.f 2;have s3:=c_3.c 3 rfl;have f3:=c_3.f 3;have s4:=c_3.c 4 rfl;have f4:=c_3.f 4;have s5:=c_3.c 5 rfl;have f5:=c_3.f 5
   go_wp2
   have bu:But (w.heap.size+1+1) wb ((((((wb.setCell ⟨w.heap.size+1+1,0,none⟩ (.bool false)).setCell ⟨w.heap.size+1+1,1,none⟩ yN).setCell ⟨w.heap.size+1+1,2,none⟩ (yi 0)).setCell ⟨w.heap.size+1+1,3,none⟩ (.bool false)).setCell ⟨w.heap.size+1+1,4,none⟩ (.bool false)).setCell ⟨w.heap.size+1+1,5,none⟩ (.bool false)):=(((((ag wb (w.heap.size+1+1) 0 (.bool false)).trans (ag _ (w.heap.size+1+1) 1 yN)).trans (ag _ (w.heap.size+1+1) 2 (yi 0))).trans (ag _ (w.heap.size+1+1) 3 (.bool false))).trans (ag _ (w.heap.size+1+1) 4 (.bool false))).trans (ag _ (w.heap.size+1+1) 5 (.bool false));have cR:au ((((((wb.setCell ⟨w.heap.size+1+1,0,none⟩ (.bool false)).setCell ⟨w.heap.size+1+1,1,none⟩ yN).setCell ⟨w.heap.size+1+1,2,none⟩ (yi 0)).setCell ⟨w.heap.size+1+1,3,none⟩ (.bool false)).setCell ⟨w.heap.size+1+1,4,none⟩ (.bool false)).setCell ⟨w.heap.size+1+1,5,none⟩ (.bool false)) (w.heap.size+1+1) 112 (ypL false yN 0 false false false):=(((((c_3.set 0 (.bool false)).set 1 yN).set 2 (yi 0)).set 3 (.bool false)).set 4 (.bool false)).set 5 (.bool false);have bR:=bu.below b0_3 (show w.heap.size≤w.heap.size+1+1 by omega)
   clear bu s0 s1 s2 s3 s4 s5 f0 f1 f2 f3 f4 f5 q_3 g_3 c_3;generalize((((((wb.setCell ⟨w.heap.size+1+1,0,none⟩ (.bool false)).setCell ⟨w.heap.size+1+1,1,none⟩ yN).setCell ⟨w.heap.size+1+1,2,none⟩ (yi 0)).setCell ⟨w.heap.size+1+1,3,none⟩ (.bool false)).setCell ⟨w.heap.size+1+1,4,none⟩ (.bool false)).setCell ⟨w.heap.size+1+1,5,none⟩ (.bool false))=WR at cR bR⊢;obtain⟨s0,s1,s2,s3,s4,s5⟩:=cR.cs6;rw[HF.out.1,HF.out.2]
   show bodyPost _ _ _ .ret _ _
   refine bodyPost_ret (v:= .tuple #[ypV false yN 0 false false false,yi 6]) (by simp[results,results56,go_sem,s0,s1,s2,s3,s4,s5]) rfl ?_;exact⟨_,rfl,aQ _ _ _ _,bR⟩
  ·have hf:=hfv.out rfl
   have HZ3:Hid _:=HZ2.out rfl;have HG3:Hid _:=HG2.out rfl;have HR3:Hid _:=HR2.out rfl;clear HK2 HZ2 HG2 HR2 hfn hfv;subst hf;have x1:=q_3.c 1 rfl
   cases z
   ·have HF:Hid _:=HG3.out rfl
    have HRF:Hid _:=HR3.out rfl;clear HZ3 HG3 HR3;have x0:=q_3.c 0 rfl;have x2:=q_3.c 2 rfl;have x3:=q_3.c 3 rfl;obtain⟨y0,y1,y2,y3,y4⟩:=g_3.cs5;have hwb:=b0_3.size
    go_wp2_with fail
    refine(HRF.out _ b0_3).mono ?_;rintro z wc ⟨v,rfl,ou,bb4⟩;have q_4:=q_3.l bb4;have g_4:=g_3.l bb4;have c_4:=c_3.l bb4;have b0_4:=aa b0_3 bb4;clear q_3 g_3 c_3 b0_3 bb4;clear x0 x1 x2 x3 y0 y1 y2 y3 y4;obtain⟨uo,uk,hv⟩:=ou.rd.shape;subst hv;obtain⟨lu,hlu⟩: ∃x,(Dg.dg 4294967296 PT.d).length=x:=⟨_,rfl⟩;rw[hlu] at ou;rw[hlu];clear hlu;have s0:=c_4.c 0 rfl;have f0:=c_4.f 0;have s1:=c_4.c 1 rfl;have f1:=c_4.f 1;have s2:=c_4.c 2 rfl;have f2:=c_4.f 2;have s3:=c_4.c 3 rfl;have f3:=c_4.f 3;have s4:=c_4.c 4 rfl;have f4:=c_4.f 4;have s5:=c_4.c 5 rfl;have f5:=c_4.f 5
    go_wp2
    have bu:But (w.heap.size+1+1) wc ((((((wc.setCell ⟨w.heap.size+1+1,0,none⟩ (.bool PT.s)).setCell ⟨w.heap.size+1+1,1,none⟩ (.slice uo lu uk)).setCell ⟨w.heap.size+1+1,2,none⟩ (yi PT.p)).setCell ⟨w.heap.size+1+1,3,none⟩ (.bool PT.ex)).setCell ⟨w.heap.size+1+1,4,none⟩ (.bool PT.ov)).setCell ⟨w.heap.size+1+1,5,none⟩ (.bool PT.un)):=(((((ag wc (w.heap.size+1+1) 0 (.bool PT.s)).trans (ag _ (w.heap.size+1+1) 1 (.slice uo lu uk))).trans (ag _ (w.heap.size+1+1) 2 (yi PT.p))).trans (ag _ (w.heap.size+1+1) 3 (.bool PT.ex))).trans (ag _ (w.heap.size+1+1) 4 (.bool PT.ov))).trans (ag _ (w.heap.size+1+1) 5 (.bool PT.un));have cR:au ((((((wc.setCell ⟨w.heap.size+1+1,0,none⟩ (.bool PT.s)).setCell ⟨w.heap.size+1+1,1,none⟩ (.slice uo lu uk)).setCell ⟨w.heap.size+1+1,2,none⟩ (yi PT.p)).setCell ⟨w.heap.size+1+1,3,none⟩ (.bool PT.ex)).setCell ⟨w.heap.size+1+1,4,none⟩ (.bool PT.ov)).setCell ⟨w.heap.size+1+1,5,none⟩ (.bool PT.un)) (w.heap.size+1+1) 112 (ypL PT.s (.slice uo lu uk) PT.p PT.ex PT.ov PT.un):=(((((c_4.set 0 (.bool PT.s)).set 1 (.slice uo lu uk)).set 2 (yi PT.p)).set 3 (.bool PT.ex)).set 4 (.bool PT.ov)).set 5 (.bool PT.un);have bR:=bu.below b0_4 (show w.heap.size≤w.heap.size+1+1 by omega)
    have oR:=bu.own (ou.lower hwb) c_4 (by decide);clear bu s0 s1 s2 s3 s4 s5 f0 f1 f2 f3 f4 f5 q_4 g_4 c_4;generalize((((((wc.setCell ⟨w.heap.size+1+1,0,none⟩ (.bool PT.s)).setCell ⟨w.heap.size+1+1,1,none⟩ (.slice uo lu uk)).setCell ⟨w.heap.size+1+1,2,none⟩ (yi PT.p)).setCell ⟨w.heap.size+1+1,3,none⟩ (.bool PT.ex)).setCell ⟨w.heap.size+1+1,4,none⟩ (.bool PT.ov)).setCell ⟨w.heap.size+1+1,5,none⟩ (.bool PT.un))=WR at cR bR oR⊢;obtain⟨s0,s1,s2,s3,s4,s5⟩:=cR.cs6;rw[HF.out.1,HF.out.2]
    show bodyPost _ _ _ .ret _ _
    refine bodyPost_ret (v:= .tuple #[ypV PT.s (.slice uo lu uk) PT.p PT.ex PT.ov PT.un,yi 0]) (by simp[results,results56,go_sem,s0,s1,s2,s3,s4,s5]) rfl ?_;exact⟨_,rfl,oR,bR⟩
   ·have HF:Hid _:=HZ3.out rfl
    clear HZ3 HG3 HR3;have s0:=c_3.c 0 rfl;have f0:=c_3.f 0;have s1:=c_3.c 1 rfl;have f1:=c_3.f 1;have s2:=c_3.c 2 rfl;have f2:=c_3.f 2;have s3:=c_3.c 3 rfl;have f3:=c_3.f 3;have s4:=c_3.c 4 rfl;have f4:=c_3.f 4;have s5:=c_3.c 5 rfl;have f5:=c_3.f 5
    go_wp2
    have bu:But (w.heap.size+1+1) wb ((((((wb.setCell ⟨w.heap.size+1+1,0,none⟩ (.bool false)).setCell ⟨w.heap.size+1+1,1,none⟩ yN).setCell ⟨w.heap.size+1+1,2,none⟩ (yi 0)).setCell ⟨w.heap.size+1+1,3,none⟩ (.bool true)).setCell ⟨w.heap.size+1+1,4,none⟩ (.bool false)).setCell ⟨w.heap.size+1+1,5,none⟩ (.bool false)):=(((((ag wb (w.heap.size+1+1) 0 (.bool false)).trans (ag _ (w.heap.size+1+1) 1 yN)).trans (ag _ (w.heap.size+1+1) 2 (yi 0))).trans (ag _ (w.heap.size+1+1) 3 (.bool true))).trans (ag _ (w.heap.size+1+1) 4 (.bool false))).trans (ag _ (w.heap.size+1+1) 5 (.bool false));have cR:au ((((((wb.setCell ⟨w.heap.size+1+1,0,none⟩ (.bool false)).setCell ⟨w.heap.size+1+1,1,none⟩ yN).setCell ⟨w.heap.size+1+1,2,none⟩ (yi 0)).setCell ⟨w.heap.size+1+1,3,none⟩ (.bool true)).setCell ⟨w.heap.size+1+1,4,none⟩ (.bool false)).setCell ⟨w.heap.size+1+1,5,none⟩ (.bool false)) (w.heap.size+1+1) 112 (ypL false yN 0 true false false):=(((((c_3.set 0 (.bool false)).set 1 yN).set 2 (yi 0)).set 3 (.bool true)).set 4 (.bool false)).set 5 (.bool false);have bR:=bu.below b0_3 (show w.heap.size≤w.heap.size+1+1 by omega)
    clear bu s0 s1 s2 s3 s4 s5 f0 f1 f2 f3 f4 f5 q_3 g_3 c_3;generalize((((((wb.setCell ⟨w.heap.size+1+1,0,none⟩ (.bool false)).setCell ⟨w.heap.size+1+1,1,none⟩ yN).setCell ⟨w.heap.size+1+1,2,none⟩ (yi 0)).setCell ⟨w.heap.size+1+1,3,none⟩ (.bool true)).setCell ⟨w.heap.size+1+1,4,none⟩ (.bool false)).setCell ⟨w.heap.size+1+1,5,none⟩ (.bool false))=WR at cR bR⊢;obtain⟨s0,s1,s2,s3,s4,s5⟩:=cR.cs6;rw[HF.out.1,HF.out.2]
    show bodyPost _ _ _ .ret _ _
    refine bodyPost_ret (v:= .tuple #[ypV false yN 0 true false false,yi 0]) (by simp[results,results56,go_sem,s0,s1,s2,s3,s4,s5]) rfl ?_;exact⟨_,rfl,aQ _ _ _ _,bR⟩
 ·have hcf:(c==0)=false:=by simp;exact hc
  have HF:Hid _:=HB.out hc;clear hc HB HK HZ HG HR;have s0:=c_2.c 0 rfl;have f0:=c_2.f 0;have s1:=c_2.c 1 rfl;have f1:=c_2.f 1;have s2:=c_2.c 2 rfl;have f2:=c_2.f 2;have s3:=c_2.c 3 rfl;have f3:=c_2.f 3;have s4:=c_2.c 4 rfl;have f4:=c_2.f 4;have s5:=c_2.c 5 rfl;have f5:=c_2.f 5
  go_wp2
  have bu:But (w.heap.size+1+1) wa ((((((wa.setCell ⟨w.heap.size+1+1,0,none⟩ (.bool false)).setCell ⟨w.heap.size+1+1,1,none⟩ yN).setCell ⟨w.heap.size+1+1,2,none⟩ (yi 0)).setCell ⟨w.heap.size+1+1,3,none⟩ (.bool false)).setCell ⟨w.heap.size+1+1,4,none⟩ (.bool false)).setCell ⟨w.heap.size+1+1,5,none⟩ (.bool false)):=(((((ag wa (w.heap.size+1+1) 0 (.bool false)).trans (ag _ (w.heap.size+1+1) 1 yN)).trans (ag _ (w.heap.size+1+1) 2 (yi 0))).trans (ag _ (w.heap.size+1+1) 3 (.bool false))).trans (ag _ (w.heap.size+1+1) 4 (.bool false))).trans (ag _ (w.heap.size+1+1) 5 (.bool false));have cR:au ((((((wa.setCell ⟨w.heap.size+1+1,0,none⟩ (.bool false)).setCell ⟨w.heap.size+1+1,1,none⟩ yN).setCell ⟨w.heap.size+1+1,2,none⟩ (yi 0)).setCell ⟨w.heap.size+1+1,3,none⟩ (.bool false)).setCell ⟨w.heap.size+1+1,4,none⟩ (.bool false)).setCell ⟨w.heap.size+1+1,5,none⟩ (.bool false)) (w.heap.size+1+1) 112 (ypL false yN 0 false false false):=(((((c_2.set 0 (.bool false)).set 1 yN).set 2 (yi 0)).set 3 (.bool false)).set 4 (.bool false)).set 5 (.bool false);have bR:=bu.below b0_2 (show w.heap.size≤w.heap.size+1+1 by omega)
  clear bu s0 s1 s2 s3 s4 s5 f0 f1 f2 f3 f4 f5 q_2 g_2 c_2;generalize((((((wa.setCell ⟨w.heap.size+1+1,0,none⟩ (.bool false)).setCell ⟨w.heap.size+1+1,1,none⟩ yN).setCell ⟨w.heap.size+1+1,2,none⟩ (yi 0)).setCell ⟨w.heap.size+1+1,3,none⟩ (.bool false)).setCell ⟨w.heap.size+1+1,4,none⟩ (.bool false)).setCell ⟨w.heap.size+1+1,5,none⟩ (.bool false))=WR at cR bR⊢;obtain⟨s0,s1,s2,s3,s4,s5⟩:=cR.cs6;rw[HF.out.1,HF.out.2]
  show bodyPost _ _ _ .ret _ _
  refine bodyPost_ret (v:= .tuple #[ypV false yN 0 false false false,yi c]) (by simp[results,results56,go_sem,s0,s1,s2,s3,s4,s5]) rfl ?_;exact⟨_,rfl,aQ _ _ _ _,bR⟩
def T4 (way:Int):FuncId:=if way=1 then 109 else if way=2 then 110 else if way=3 then 111 else if way=4 then 112 else 113
def iC (way:Int):Bool:=decide (1≤way∧way≤5)
def ac0 (way:Int):Value:=if iC way=true then .func (.func (T4 way)) #[] #[] else .nilFunc
theorem zi {way:Int}(h:iC way=true):way=1∨way=2∨way=3∨way=4∨way=5:=by
 have:=of_decide_eq_true h;omega
theorem XI (x y:Int):Instr.sameNow (.int .i64) (yi x) (yi y)=some (decide (x=y)):=by
 simp[Instr.sameNow]
 by_cases h:x=y<;>simp[h]
theorem PI (way:Int)(w1:World)(r:Nat)(hm:w1.heap[r]? =some (.map Yd 5)):(Instr.lookup 157 (.map (some r)) (yi way) false).run Tryz.prog w1= .ok (ac0 way) w1:=by
 by_cases h:iC way=true
 ·rcases zi h with rfl|rfl|rfl|rfl|rfl
  ·exact pj underlying157 underlying3 hm 1 rfl
  ·exact pj underlying157 underlying3 hm 2 rfl
  ·exact pj underlying157 underlying3 hm 3 rfl
  ·exact pj underlying157 underlying3 hm 4 rfl
  ·exact pj underlying157 underlying3 hm 5 rfl
 ·have hn: ¬(1≤way∧way≤5):=fun c=>h (decide_eq_true c)
  unfold ac0;rw[if_neg h];refine Yc underlying157 underlying3 hm way ?_ ?_
  ·kernel_rfl
  ·simp[Yd,Instr.findNow,XI,show¬way=1 by omega,show¬way=2 by omega,show¬way=3 by omega,show¬way=4 by omega,show¬way=5 by omega]
theorem PK {way:Int}(h:iC way=true)(half:Int)(odd neg:Bool)(w1:World):yC (T4 way) #[.agg #[yi half,.bool odd,.bool neg]] w1 (yR w1 (.bool (gY way half odd neg))):=by
 rcases zi h with rfl|rfl|rfl|rfl|rfl
 ·exact Yf half odd neg w1
 ·exact Yg half odd neg w1
 ·exact Yh half odd neg w1
 ·exact Yi half odd neg w1
 ·exact Yj half odd neg w1
theorem enter_of {P:Program}{f:FuncId}{fn:Func}{c:Code}(hf:P.funcs[f]? =some fn)(hname:(fn.name== "runtime.NumGoroutine")=false)(hb:fn.body=some c)(args:Array Value)(w:World):Sem.run P (callFunc f args) w= .ok (.enter f args) w:=by
 have hn: ¬fn.name= "runtime.NumGoroutine" :=by simpa using hname
 simp[callFunc,hf,hn,hb]
theorem PO {way:Int}(h:iC way=true)(args:Array Value)(W:World):Sem.run Tryz.prog (callFunc (T4 way) args) W= .ok (.enter (T4 way) args) W:=by
 rcases zi h with rfl|rfl|rfl|rfl|rfl
 ·exact enter_of func109 (by kernel_rfl) rfl args W
 ·exact enter_of func110 (by kernel_rfl) rfl args W
 ·exact enter_of func111 (by kernel_rfl) rfl args W
 ·exact enter_of func112 (by kernel_rfl) rfl args W
 ·exact enter_of func113 (by kernel_rfl) rfl args W
def eE (xs ys:List Nat)(E R D L G way:Int):Int:=
 if jg (eA xs ys E) (bk R D L G)=0 then(if iC way=true then 0 else 6) else jg (eA xs ys E) (bk R D L G)
def df (xs ys:List Nat)(E R D L G:Int)(gr qs:Bool)(way:Int):fz:=
 if eE xs ys E R D L G way=0 then(if xs.length=0 then⟨false,0,0,true,false,false⟩ else cI R D L G gr qs (Dg.vl 4294967296 xs) (Dg.vl 4294967296 ys) E way) else oI
theorem C4 {c d:Int}(h:jg c d=0):c=0∧d=0:=by
 unfold jg at h
 split at h
 ·exact⟨by assumption,h⟩
 ·exact absurd h (by assumption)
theorem gO {xs ys:List Nat}{E:Int}(h:eA xs ys E=0):chk xs=0∧chk ys=0∧0<ys.length∧ -20000≤E∧E≤20000:=by
 unfold eA at h
 by_cases h1:chk xs=0
 ·rw[if_pos h1] at h
  by_cases h2:chk ys=0
  ·rw[if_pos h2] at h
   by_cases h3:ys.length=0∨eJ 20000 E=true
   ·rw[if_pos h3] at h
    cases h
   ·have h4: ¬eJ 20000 E=true:=fun c=>h3 (Or.inr c)
    unfold eJ at h4;simp at h4;refine⟨h1,h2, ?_,by omega,by omega⟩;have: ¬ys.length=0:=fun c=>h3 (Or.inl c)
    omega
  ·rw[if_neg h2] at h
   exact absurd h h2
 ·rw[if_neg h1] at h
  exact absurd h h1
theorem jM (qs:Bool)(ao:Option Addr)(ca:Nat)(xs:List Nat)(bo:Option Addr)(cb:Nat)(ys:List Nat)(E R D L G:Int)(gr:Bool)(way:Int)(w:World)(ha:Rd w .u32 (.slice ao xs.length ca) xs)(hb:Rd w .u32 (.slice bo ys.length cb) ys)(sa:Dg.Small 4294967296 xs)(sb:Dg.Small 4294967296 ys):
  yC 56 #[yrV qs (.slice ao xs.length ca) (.slice bo ys.length cb) E,ygV R D L G gr,yi way] w (sq w (eE xs ys E R D L G way) (df xs ys E R D L G gr qs way)):=by
 refine Ob R D L G gr qs ao xs.length ca bo ys.length cb E way (jg (eA xs ys E) (bk R D L G)) (ac0 way) (T4 way) (iC way) ((xs.length:Int)==0) (cI R D L G gr qs (Dg.vl 4294967296 xs) (Dg.vl 4294967296 ys) E way) _ _ w ?_ ?_ rfl ?_ ?_ ?_ ?_ ?_ ?_ ?_
 ·intro h
  exact if_pos h
 ·intro h
  exact if_neg (by rw[h];decide)
 ·intro h
  have e:eE xs ys E R D L G way=jg (eA xs ys E) (bk R D L G):=if_neg h;exact⟨e,by unfold df;rw[e,if_neg h]⟩
 ·intro h hw
  have e:eE xs ys E R D L G way=6:=(if_pos h).trans (if_neg (by rw[hw];decide));exact⟨e,by unfold df;rw[e];rfl⟩
 ·intro h hw hz
  have e:eE xs ys E R D L G way=0:=(if_pos h).trans (if_pos hw);have hx:xs.length=0:=by simpa using hz
  exact⟨e,by unfold df;rw[e,if_pos rfl,if_pos hx]⟩
 ·intro h hw hz
  have e:eE xs ys E R D L G way=0:=(if_pos h).trans (if_pos hw);have hx: ¬xs.length=0:=by simpa using hz
  exact⟨e,by unfold df;rw[e,if_pos rfl,if_neg hx]⟩
 ·intro w1 b
  exact Qe qs ao ca xs bo cb ys E R D L G gr w1 (ha.l b) (hb.l b)
 ·intro w1 r hm
  exact PI way w1 r hm
 ·intro h hw hz w1 b
  obtain⟨h1,h2⟩:=C4 h;obtain⟨c1,c2,hl,e1,e2⟩:=gO h1;obtain⟨nx,lx⟩:=aF c1;obtain⟨ny,ly⟩:=aF c2;have ex:Dg.dg 4294967296 (Dg.vl 4294967296 xs)=xs:=Dg.dg_vl _ (by omega) _ sa nx;have ey:Dg.dg 4294967296 (Dg.vl 4294967296 ys)=ys:=Dg.dg_vl _ (by omega) _ sb ny;have hM:0<Dg.vl 4294967296 ys:=by
   refine Nat.pos_of_ne_zero fun c=> ?_
   rw[c] at ey;rw[←ey] at hl;exact absurd hl (by decide)
  have:=Qh R D L G gr qs ao ca bo cb (Dg.vl 4294967296 xs) (Dg.vl 4294967296 ys) E way (T4 way) w1 h2 (by rw[ex];exact ha.l b) (by rw[ey];exact hb.l b) (by rw[ex];omega) (by rw[ey];omega) hM e1 e2 (PO hw) (PK hw)
  rwa [ex,ey] at this
end Go.Proofs.YtpainhklfoaniaaGreatDoor

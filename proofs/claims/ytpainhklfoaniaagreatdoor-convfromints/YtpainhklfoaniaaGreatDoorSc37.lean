/-
  Texts laid together: Ef1, Cr3.
-/
import Derived.Deep.CutBlock
import Derived.Test.YtpainhklfoaniaaGreatDoorSc36
set_option maxRecDepth 100000
set_option maxHeartbeats 12800000
namespace Go.Proofs.YtpainhklfoaniaaGreatDoor
open _root_.Go.Proofs.Tryz
open Go.RowKit
def afv (w:World)(bf:Nat)(fl:List Value)(E F:Nat)(ng:Bool)(s7 s8 s9:Value)(wx:World):Prop:=
 s7=yi E∧s9= .bool ng∧Rd wx .i64 s8 (Dg.dg 65536 F)∧au wx bf 28 fl∧yB w wx
def afw (w:World)(bf:Nat)(fl:List Value)(bs:List Bool)(F:Nat)(s8 s14:Value)(wx:World):Prop:=
 jp wx w.heap.size s14 bs∧Rd wx .i64 s8 (Dg.dg 65536 F)∧au wx bf 28 fl∧yB w wx
theorem ni (w:World):Rd w .i64 yN (Dg.dg 65536 0):=by
 rw[show Dg.dg 65536 0=[] from(Dg.dg_nil_iff 65536 0 (by omega)).2 rfl]
 exact⟨none,0,rfl,Nat.le_refl _,by unfold maxLen;omega,fun h=>absurd h (by simp)⟩
theorem vV {w w0:World}{base g m:Nat}{v:Value}{xs ys:List Bool}(t ty:Nat)(i:TypeInfo)(ht:Tryz.prog.underlying t=some (.slice 4))(hi:Tryz.prog.info? 4=some i)
  (hz:i.zero=some (.bool false)) (hsize:i.size=1) (hby:i.bytes=1)
  (ho:jp w base v xs) (hm:m=ys.length) (hy:jp w w0.heap.size (.slice (some ⟨g,0,none⟩) m m) ys) (hl:xs.length+m≤1000) (hbase:base≤w.heap.size):
  ∃v' w',(Builtin.append_ #[t,t] ty #[v,.slice (some ⟨g,0,none⟩) m m]).run Tryz.prog w= .ok v' w'∧jp w' base v' (xs++ys)∧w.grownBy w' v.ownBlock:=by
 subst hm;obtain⟨v',w',r1,r2,r3,_⟩:=run_append_own (P:=Tryz.prog) (w:=w) base t ty 4 i (.bool false) 1 1 ht hi hz hsize hby rfl (by omega) v xs.length _ ho ⟨g,0,none⟩ ys.length ys.length (ys.map Value.bool) (by simp) (fun j u hj=>by
   have hjl:j<ys.length:=by
    have:=(List.getElem?_eq_some_iff.1 hj).1
    simpa using this
   rw[rO,Nat.zero_add,hy.c rfl j hjl];rw[List.getElem?_map,List.getElem?_eq_getElem hjl] at hj;rw[←hj];simp[List.getD_eq_getElem?_getD,hjl]) (fun u hu=>by
   obtain⟨n,_,rfl⟩:=List.mem_map.1 hu;rfl) (by unfold maxLen;omega) (by omega) hbase
 exact⟨v',w',r1,by unfold jp;rw[List.map_append,List.length_append];exact r2,r3⟩
theorem mg {P:Program}{ops:Array Oper}{o:Oper}{a:Act}{w:World}{K:Act→World→Prop}{Q:Exit→Act→World→Prop}{E:Prop}
  (hg:o.guard=none) (s x:Operand) (t:TypeId) (hop:o.op=Op.call {callee:=Callee.builtin Builtin.append,args:= #[s,x],argTypes:= #[t,t]})
  (v u v':Value) (w':World) (hs:a.eval s=v) (hx:a.eval x=u) (hr:(Builtin.append_ #[t,t] o.type #[v,u]).run P w= .ok v' w') (hK:K (a.put o.dst v') w'):
  if Region.wanted o (yielded ops a.tmps)=true then Oper.wp P o a w K Q else E:=by
 have hw:Region.wanted o (yielded ops a.tmps)=true:=by simp[Region.wanted,hg]
 rw[if_pos hw];unfold Oper.wp;simp[execOp,hop,resolve,invoke,builtin,hs,hx,hr,Result.andThen];exact hK
theorem SW {w:World}{base:Nat}{v:Value}{bs:List Bool}(h:jp w base v bs)(hp:0<bs.length): ∃g cap,v= .slice (some ⟨g,0,none⟩) bs.length cap∧bs.length≤cap∧cap≤maxLen∧base≤g∧ ∀i,i<bs.length→w.cell? ⟨g,i,none⟩=some (.bool (bs.getD i false)):=by
 obtain⟨hl,h2⟩:=h
 rcases h2 with⟨hv,hn⟩| ⟨g,cap,cur,hv,hb,hh,hnc,hcm,hcs,htake⟩
 ·omega
 ·refine⟨g,cap,hv,hnc,hcm,hb,fun i hi'=> ?_⟩
  have hc:=World.ownsRow.cellAt (w:=w) (base:=base) (e:=4) (size:=1) (g:=g) (n:=bs.length) (cap:=cap) (xs:=bs.map Value.bool) ⟨hl,.inr ⟨g,cap,cur,rfl,hb,hh,hnc,hcm,hcs,htake⟩⟩ i (by omega);rw[hc,List.getElem?_map,List.getElem?_eq_getElem hi'];simp[List.getD_eq_getElem?_getD,hi']
theorem GH (w:World)(b:Bool):jp (w.alloc (.cells #[.bool b] 4)) w.heap.size (.slice (some ⟨w.heap.size,0,none⟩) 1 1) [b]:=
 World.ownsRow_lit (e:=4) (size:=1) (base:=w.heap.size) w #[.bool b] 1 (Nat.le_refl _) (by unfold maxLen;omega) rfl
theorem jp.wider {w:World}{base b':Nat}{v:Value}{bs:List Bool}(h:jp w base v bs)(hb:b'≤base):jp w b' v bs:=by
 obtain⟨hl,h2⟩:=h;refine⟨hl, ?_⟩
 rcases h2 with h2| ⟨g,cap,cur,hv,hbg,r⟩
 ·exact .inl h2
 ·exact .inr ⟨g,cap,cur,hv,Nat.le_trans hb hbg,r⟩
theorem Rx (n:Int)(sz ex fr nb:Nat)(R D L G fam wd:Int)(gr:Bool)(c:Int)(g ts:Bool)(so:Option Addr)(tn sc:Nat)(te:Int)(E F:Nat)(ng:Bool)(st:ByteArray)(pa pb pc pd pl:Nat)(bl k kk a1 a2 dl:Int)(d e0:Nat)(w:World)
  (hex:ex≤15) (hex1:1≤ex) (hfr:fr≤64) (hfr1:1≤fr) (hnb:1+ex+fr=nb) (hE:E<65536) (hD1:1≤D) (hD2:D≤64) (_hne:(wd==0)=false) (hne2: ¬wd=0)
  (HU:c=2→IntKind.i64.wrap (te+bl)=te+bl∧IntKind.i64.wrap (te+bl-1)=te+bl-1∧IntKind.i64.wrap (te+bl-1+80000)=te+bl-1+80000∧(te+bl-1+80000).tdiv wd=a1∧(80000:Int).tdiv wd=a2∧IntKind.i64.wrap a1=a1∧IntKind.i64.wrap a2=a2∧IntKind.i64.wrap (a1-a2)=a1-a2∧IntKind.i64.wrap (a1-a2-D)=a1-a2-D∧IntKind.i64.wrap (a1-a2-D+1)=kk∧max L kk=k∧IntKind.i64.wrap (wd*k)=wd*k∧IntKind.i64.wrap (te-wd*k)=te-wd*k∧IntKind.i64.wrap (k-L)=(e0:Int)∧e0<65536)
  (HF:yJ 10 #[yi n] (.tuple #[yhV sz ex fr R D L G gr fam,.bool true]))
  (HWI:yJ 31 #[ygV R D L G gr] (yi wd))
  (HPA: ∀w1,yC 26 #[yi 63] w1 (cG w1 pa))
  (HPB: ∀w1,yC 26 #[yi 62] w1 (cG w1 pb))
  (HPC: ∀v u w1,Rd w1 .i64 v (Dg.dg 65536 pa)→Rd w1 .i64 u (Dg.dg 65536 pb)→yC 47 #[v,u] w1 (cG w1 pc))
  (HPD: ∀w1,yC 26 #[yi ((fr:Int)-1)] w1 (cG w1 pd))
  (HPL: ∀w1,yC 26 #[yi (D-1)] w1 (cG w1 pl))
  (HLN:c=2→yH w 58 #[yS so tn sc] (yi bl))
  (HFL:c=2→ ∀w1,yB w w1→yC 28 #[ydV false (yS so tn sc) (te-wd*k)] w1 (cG w1 d))
  (HLD: ∀v w1,Rd w1 .i64 v (Dg.dg 65536 d)→yC 58 #[v] w1 (yR w1 (yi dl)))
  (HLS:dl=D→ ∀v u w1,Rd w1 .i64 v (Dg.dg 65536 d)→Rd w1 .i64 u (Dg.dg 65536 pl)→yC 32 #[v,u] w1 (cG w1 (d-pl)))
  (HFR: ∀w1,yC 55 #[yi E] w1 (cG w1 E))
  (HBE: ∀v w1,Rd w1 .i64 v (Dg.dg 65536 E)→yC 80 #[v,yi ex] w1 fun z w'=> ∃gg,z= .returned (.slice (some ⟨gg,0,none⟩) ex ex)∧jp w' w1.heap.size (.slice (some ⟨gg,0,none⟩) ex ex) (bnL E ex)∧yB w1 w')
  (HBF: ∀v w1,Rd w1 .i64 v (Dg.dg 65536 F)→yC 80 #[v,yi fr] w1 fun z w'=> ∃gg,z= .returned (.slice (some ⟨gg,0,none⟩) fr fr)∧jp w' w1.heap.size (.slice (some ⟨gg,0,none⟩) fr fr) (bnL F fr)∧yB w1 w')
  (HPT: ∀gg cap w1,(∀i,i<nb→w1.cell? ⟨gg,i,none⟩=some (.bool (((ng::bnL E ex)++bnL F fr).getD i false)))→yC 81 #[yi n,.slice (some ⟨gg,0,none⟩) nb cap] w1 (yR w1 (.string st)))
  (HC:(c=1∧E=0∧F=0∧ng=g)∨(c=5∧E=0∧F=0∧ng=true)∨(c=3∧n=3∧E+1=2^ex∧F=pa∧ng=g)∨(c=3∧n≠3∧E+1=2^ex∧F=0∧ng=g)∨(c=4∧n=3∧E+1=2^ex∧F=pc∧ng=g)∨(c=4∧n≠3∧E+1=2^ex∧F=pd∧ng=g)∨(c=2∧ng=g∧((fam=2∧E=e0∧F=d)∨(fam≠2∧dl≠D∧E=e0∧F=d)∨(fam≠2∧dl=D∧n=3∧E=e0+1∧F=d)∨(fam≠2∧dl=D∧n≠3∧E=e0+1∧F=d-pl)))):
  yC 52 #[yi n,yoV c g ts (yS so tn sc) te] w (yR w (.string st)):=by
 replace HF:Hid _:=HF;replace HWI:Hid _:=HWI;replace HPA:Hid _:=HPA;replace HPB:Hid _:=HPB;replace HPC:Hid _:=HPC;replace HPD:Hid _:=HPD;replace HPL:Hid _:=HPL;replace HLN:Hid _:=HLN;replace HFL:Hid _:=HFL;replace HLD:Hid _:=HLD;replace HLS:Hid _:=HLS;replace HFR:Hid _:=HFR;replace HBE:Hid _:=HBE;replace HBF:Hid _:=HBF;replace HPT:Hid _:=HPT;replace HC:Hid _:=HC;replace HU:Hid _:=HU;have b0:=af w (.cells (yoA c g ts (yS so tn sc) te) 37);have q0:=ah w (yoL c g ts (yS so tn sc) te) 37
 go_enter func52,ntmps52
 go_wp2_with fail
 refine(HF.out _).mono ?_;rintro z w1 ⟨rfl,b1⟩;have ba:=af w1 (.cells (yhA sz ex fr R D L G gr fam) 28);have f2:=ah w1 (yhL sz ex fr R D L G gr fam) 28;have q2:=(q0.l b1).l ba;have b02:=aa (aa b0 b1) ba;clear b0 q0 b1 ba HF
 go_upto_region 2 with fail
 generalize w1.alloc (.cells (yhA sz ex fr R D L G gr fam) 28)=w2 at f2 q2 b02⊢;generalize w1.heap.size=bf at f2⊢;obtain⟨y0,y1,y2,y3,y4⟩:=q2.cs5;obtain⟨fx0,fx1,fx2,fx3,fx4,fx5,fx6,fx7,fx8⟩:=f2.cs9
 go_wp2
 go_loop [10,11] (fun lv iv=> ∃j x:Nat,Hid (x=2^j)∧j≤ex∧x≤32768∧lv=yi (x:Int)∧iv=yi (j:Int)) (fun _ iv=>ex-(intOf iv).toNat)
 case atStart=>exact⟨0,1,rfl,by omega,by omega,rfl,rfl⟩
 case round=>
  obtain⟨j,x,HX,hj,hx,rfl,rfl⟩:=hrel
  by_cases hlt:j<ex
  ·have hx2:=HX.out
   have hp:2*x=2^ (j+1):=by rw[Nat.pow_succ,hx2];omega
   have hp2:(2:Nat)^ (j+1)≤2^15:=Nat.pow_le_pow_right (by omega) (by omega);have HY:Hid (_∧_):=⟨hp,hp2⟩;clear hx2 hp hp2
   go_wp2
   obtain⟨hp,hp2⟩:=HY.out;exact⟨⟨j+1,2*x,hp,by omega,by omega,by go_num,by go_num⟩,by simp only[intOf];omega⟩
  ·have hx2:=HX.out
   rw[show j=ex from by omega] at hx2
   obtain⟨x1,hx1⟩: ∃y,x=y+1:=⟨x-1,by have:0<2^ex:=Nat.pow_pos (by omega);omega⟩;have HX1:Hid (x1+1=2^ex):=by rw[←hx1];exact hx2
   have hw1:IntKind.i64.wrap ((x:Int)-1)=(x1:Int):=by rw[show(x:Int)-1=(x1:Int) from by omega];exact IntWalk.i64_in _ ⟨by omega,by omega⟩
   have hdI: ¬((j:Int)< (ex:Int)):=by omega
   clear hx2 hx1 HX
   go_upto_block 2 with fail
   go_cut [7,8,9] (fun s7 s8 s9 wx=>afv w bf (yhL sz ex fr R D L G gr fam) E F ng s7 s8 s9 wx)
   case first=>
    rcases HC.out with h|h|h|h|h|h|h
    ·obtain⟨rfl,rfl,rfl,rfl⟩:=h
     clear HC;have rz:=ni w2
     go_wp2_with fail
     go_meet
     exact⟨rfl,rfl,rz,f2,b02⟩
    ·obtain⟨rfl,rfl,rfl,rfl⟩:=h
     clear HC;have rz:=ni w2
     go_wp2_with fail
     go_meet
     exact⟨rfl,rfl,rz,f2,b02⟩
    ·obtain⟨rfl,rfl,hEE,rfl,rfl⟩:=h
     have hx1:x1=E:=by have:=HX1.out;omega
     subst hx1;clear HC hEE
     go_wp2_with fail
     refine(HPA.out _).mono ?_;rintro z w3 ⟨v3,rfl,r3,b3⟩;have f3:=f2.l b3;have b03:=aa b02 b3;clear f2 q2 b02 b3 y0 y1 y2 y3 y4 fx0 fx1 fx2 fx3 fx4 fx5 fx6 fx7 fx8
     go_wp2_with fail
     go_meet
     exact⟨rfl,rfl,r3,f3,b03⟩
    ·obtain⟨rfl,hn,hEE,rfl,rfl⟩:=h
     have _hn3:(n==3)=false:=(by simpa using hn);have _hn4:(n != 3)=true:=(by simpa using hn);have hx1:x1=E:=by have:=HX1.out;omega
     subst hx1;clear HC hEE;have rz:=ni w2
     go_wp2_with fail
     go_meet
     exact⟨rfl,rfl,rz,f2,b02⟩
    ·obtain⟨rfl,rfl,hEE,rfl,rfl⟩:=h
     have hx1:x1=E:=by have:=HX1.out;omega
     subst hx1;clear HC hEE;have hfw:IntKind.i64.wrap ((fr:Int)-1)=(fr:Int)-1:=IntWalk.i64_in _ ⟨by omega,by omega⟩
     go_wp2_with fail
     refine(HPD.out _).mono ?_;rintro z w3 ⟨v3,rfl,r3,b3⟩;have f3:=f2.l b3;have b03:=aa b02 b3;clear f2 q2 b02 b3 y0 y1 y2 y3 y4 fx0 fx1 fx2 fx3 fx4 fx5 fx6 fx7 fx8 r3
     go_wp2_with fail
     refine(HPA.out _).mono ?_;rintro z w4 ⟨v4,rfl,r4,b4⟩;have f4:=f3.l b4;have b04:=aa b03 b4;clear f3 b03 b4
     go_wp2_with fail
     refine(HPB.out _).mono ?_;rintro z w5 ⟨v5,rfl,r5,b5⟩;have f5:=f4.l b5;have b05:=aa b04 b5;have r45:=r4.l b5;clear f4 b04 b5 r4
     go_wp2_with fail
     refine(HPC.out _ _ _ r45 r5).mono ?_;rintro z w6 ⟨v6,rfl,r6,b6⟩;have f6:=f5.l b6;have b06:=aa b05 b6;clear f5 b05 b6 r45 r5
     go_wp2_with fail
     go_meet
     exact⟨rfl,rfl,r6,f6,b06⟩
    ·obtain⟨rfl,hn,hEE,rfl,rfl⟩:=h
     have _hn3:(n==3)=false:=(by simpa using hn);have _hn4:(n != 3)=true:=(by simpa using hn);have hx1:x1=E:=by have:=HX1.out;omega
     subst hx1;clear HC hEE;have hfw:IntKind.i64.wrap ((fr:Int)-1)=(fr:Int)-1:=IntWalk.i64_in _ ⟨by omega,by omega⟩
     go_wp2_with fail
     refine(HPD.out _).mono ?_;rintro z w3 ⟨v3,rfl,r3,b3⟩;have f3:=f2.l b3;have b03:=aa b02 b3;clear f2 q2 b02 b3 y0 y1 y2 y3 y4 fx0 fx1 fx2 fx3 fx4 fx5 fx6 fx7 fx8
     go_wp2_with fail
     go_meet
     exact⟨rfl,rfl,r3,f3,b03⟩
    ·obtain⟨rfl,rfl,h⟩:=h
     have HLN2:Hid _:=HLN.out rfl;have HFL2:Hid _:=HFL.out rfl;obtain⟨U4,U5,U6,Q1,Q2,U7,U8,U9,UA,UB,M,UC,UD,UE,UF⟩:=HU.out rfl;have HH:Hid _:=h;clear HC h HU HLN HFL
     go_wp2_with fail
     refine(HWI.out _).mono ?_;rintro z w3 ⟨rfl,b3⟩;have f3:=f2.l b3;have q3:=q2.l b3;have b03:=aa b02 b3;clear f2 q2 b02 b3 y0 y1 y2 y3 y4 fx0 fx1 fx2 fx3 fx4 fx5 fx6 fx7 fx8;have bd:yB w3 w3.drew:=(Below.refl _ _).drew;have f3d:=f3.l bd;have q3d:=q3.l bd;have b3d:=aa b03 bd;have xd:=f3d.c 4 rfl;have xl:=f3d.c 5 rfl;have zm:=q3d.c 3 rfl;have ze:=q3d.c 4 rfl
     go_wp2_with fail
     go_region_held3 (fun wq=>wq.cell? ⟨w.heap.size,3,none⟩=some (yS so tn sc)∧wq.cell? ⟨w.heap.size,4,none⟩=some (yi te)∧wq.cell? ⟨bf,4,none⟩=some (yi D)∧wq.cell? ⟨bf,5,none⟩=some (yi L)) (go_keep) (first
      | (go_at_call 58;have hgd:=b3d;clear hgd;refine(HLN2.out _ b3d).mono ?_;rintro z wa ⟨rfl,bb⟩;have b0a:=aa b3d bb;have fa:=f3d.l bb;have qa:=q3d.l bb;have ya3:=qa.c 3 rfl;have ya4:=qa.c 4 rfl;have xa4:=fa.c 4 rfl;have xa5:=fa.c 5 rfl;clear b3d))
     clear xd xl zm ze f3 q3 b03 f3d q3d bb ya3 ya4 xa4 xa5;have ya3:=qa.c 3 rfl;have ya4:=qa.c 4 rfl
     go_wp2_with fail
     refine(HFL2.out _ b0a).mono ?_;rintro z w4 ⟨v4,rfl,r4,b4⟩;have f4:=fa.l b4;have b04:=aa b0a b4;clear fa qa b0a b4 ya3 ya4;have x5:=f4.c 5 rfl;have x8:=f4.c 8 rfl;have x4:=f4.c 4 rfl
     rcases HH.out with h|h|h|h
     ·obtain⟨rfl,rfl,rfl⟩:=h
      clear HH
      go_wp2_with fail
      go_meet
      exact⟨rfl,rfl,r4,f4,b04⟩
     ·obtain⟨hf,hd,rfl,rfl⟩:=h
      have hf1:(fam==2)=false:=by simpa using hf
      have hf2:(fam != 2)=true:=by simpa using hf
      have hd1:(dl==D)=false:=by simpa using hd
      clear HH;have bd:yB w4 w4.drew:=(Below.refl _ _).drew;have f4d:=f4.l bd;have b4d:=aa b04 bd;have r4d:=r4.l bd;have xe:=f4d.c 4 rfl
      go_wp2_with fail
      go_region_held3 (fun wq=>wq.cell? ⟨bf,4,none⟩=some (yi D)) (go_keep) (first
       | (go_at_call 58;have hgd:=b4d;clear hgd;refine(HLD.out _ _ r4d).mono ?_;rintro z w5 ⟨rfl,bb⟩;have b05:=aa b4d bb;have f5:=f4d.l bb;have r5:=r4d.l bb;have xe5:=f5.c 4 rfl;clear b4d))
      clear xe xe5 f4 b04 r4 f4d r4d bb x4 x5 x8
      go_wp2_with fail
      go_meet
      exact⟨rfl,rfl,r5,f5,b05⟩
     ·obtain⟨hf,hd,rfl,rfl,rfl⟩:=h
      have hf1:(fam==2)=false:=by simpa using hf
      have hf2:(fam != 2)=true:=by simpa using hf
      subst hd;clear HH;have bd:yB w4 w4.drew:=(Below.refl _ _).drew;have f4d:=f4.l bd;have b4d:=aa b04 bd;have r4d:=r4.l bd;have xe:=f4d.c 4 rfl
      go_wp2_with fail
      go_region_held3 (fun wq=>wq.cell? ⟨bf,4,none⟩=some (yi dl)) (go_keep) (first
       | (go_at_call 58;have hgd:=b4d;clear hgd;refine(HLD.out _ _ r4d).mono ?_;rintro z w5 ⟨rfl,bb⟩;have b05:=aa b4d bb;have f5:=f4d.l bb;have r5:=r4d.l bb;have xe5:=f5.c 4 rfl;clear b4d))
      clear xe xe5 f4 b04 r4 f4d r4d bb x4 x5 x8
      go_wp2_with fail
      go_meet
      exact⟨by go_num,rfl,r5,f5,b05⟩
     ·obtain⟨hf,hd,hn,rfl,rfl⟩:=h
      have hf1:(fam==2)=false:=by simpa using hf
      have hf2:(fam != 2)=true:=by simpa using hf
      have _hn3:(n==3)=false:=(by simpa using hn);have _hn4:(n != 3)=true:=(by simpa using hn);subst hd;clear HH;have bd:yB w4 w4.drew:=(Below.refl _ _).drew;have f4d:=f4.l bd;have b4d:=aa b04 bd;have r4d:=r4.l bd;have xe:=f4d.c 4 rfl
      go_wp2_with fail
      go_region_held3 (fun wq=>wq.cell? ⟨bf,4,none⟩=some (yi dl)) (go_keep) (first
       | (go_at_call 58;have hgd:=b4d;clear hgd;refine(HLD.out _ _ r4d).mono ?_;rintro z w5 ⟨rfl,bb⟩;have b05:=aa b4d bb;have f5:=f4d.l bb;have r5:=r4d.l bb;have xe5:=f5.c 4 rfl;clear b4d))
      clear xe xe5 f4 b04 r4 f4d r4d bb x4 x5 x8;have z4:=f5.c 4 rfl;have hdw:IntKind.i64.wrap (dl-1)=dl-1:=IntWalk.i64_in _ ⟨by omega,by omega⟩
      go_wp2_with fail
      refine(HPL.out _).mono ?_;rintro z w6 ⟨v6,rfl,r6,b6⟩;have f6:=f5.l b6;have b06:=aa b05 b6;have r56:=r5.l b6;clear f5 b05 r5 b6 z4
      go_wp2_with fail
      refine(HLS.out (by trivial) _ _ _ r56 r6).mono ?_;rintro z w7 ⟨v7,rfl,r7,b7⟩;have f7:=f6.l b7;have b07:=aa b06 b7;clear f6 b06 r56 r6 b7
      go_wp2_with fail
      go_meet
      exact⟨by go_num,rfl,r7,f7,b07⟩
   case rest=>
    obtain⟨rfl,rfl,rs,f3,b03⟩:=hcut;obtain⟨w3,hw3⟩: ∃x,x=wc:=⟨_,rfl⟩;subst hw3;obtain⟨fo,fc,rfl⟩:=rs.shape;clear f2 q2 b02 y0 y1 y2 y3 y4 fx0 fx1 fx2 fx3 fx4 fx5 fx6 fx7 fx8 HC HU
    go_upto_region 31 with fail
    go_cut [14] (fun s14 wx=>afw w bf (yhL sz ex fr R D L G gr fam) (ng::bnL E ex) F (yS fo F fc) s14 wx)
    case first=>
     have bd:yB w3 w3.drew:=(Below.refl _ _).drew;have fd:=f3.l bd;have b0d:=aa b03 bd;have rd:=rs.l bd;obtain⟨i0,hi,hz0,hz1,hz2⟩:=info_parts Tryz.infoB;have hbl:=wk E ex;refine wp_region_held_drew (S:=fun wq=>wq.cell? ⟨bf,1,none⟩=some (yi ex)) (by kernel_rfl) (fd.c 1 rfl) (fun hS0=> ?_)
     refine tq 0 (.bool ng) rfl (fun w0 _=>by go_simp) hS0 ?_
     refine tq 2 (yi E) rfl (fun w0 _=>by go_simp) hS0 ?_
     refine tq 4 (.pointer (some ⟨bf,1,none⟩)) rfl (fun w0 _=>by go_simp) hS0 ?_
     refine tq 5 (yi ex) rfl (fun w0 hw0=>by go_simp) hS0 ?_
     refine wpAnyH_ready (rs:=[1,3]) (by kernel_rfl) (by simp) ?_;refine AllReadyH.cons rfl (fun K hK=> ?_) (AllReadyH.cons rfl (fun K hK=> ?_) AllReadyH.nil)
     ·go_simp
      have a1:yB w3 (w3.alloc (.cells #[.bool ng] 4)).drew:=(af w3 (.cells #[.bool ng] 4)).drew;have o1:jp (w3.alloc (.cells #[.bool ng] 4)).drew w3.heap.size (.slice (some ⟨w3.heap.size,0,none⟩) 1 1) [ng]:=(GH w3 ng).l (Below.refl _ _).drew;have fa:=f3.l a1;have hsz:=b03.size;refine hK.out _ _ (fa.c 1 rfl) (fun hS1=> ?_)
      clear hK K;generalize(w3.alloc (.cells #[.bool ng] 4)).drew=wA at*;refine wpAnyH_ready (rs:=[3]) (by kernel_rfl) (by simp) ?_;refine AllReadyH.cons rfl (fun K hK=> ?_) AllReadyH.nil
      go_simp
      refine(HFR.out _).mono ?_;rintro z wB ⟨vB,rfl,rB,bB⟩;have fB:=fa.l bB;refine hK.out _ _ (fB.c 1 rfl) (fun hS3=> ?_)
      clear hK K;refine wpAnyH_ready (rs:=[6]) (by kernel_rfl) (by simp) ?_;refine AllReadyH.cons rfl (fun K hK=> ?_) AllReadyH.nil
      go_simp
      refine(HBE.out _ _ rB).mono ?_;rintro z wC ⟨gC,rfl,oC,bC⟩;have fC:=fB.l bC;refine hK.out _ _ (fC.c 1 rfl) (fun hS6=> ?_)
      clear hK K;have oA:=(o1.l bB).l bC;have ch:=aa (aa a1 bB) bC;have fW:=f3;have rW:=rs;have bW0:=b03;obtain⟨v6,w6,hrun,o6,gr6⟩:=vV 96 96 i0 underlying96 hi hz0 hz1 hz2 (oA.wider hsz) hbl.symm oC (by simp only[List.length_cons,List.length_nil];omega) (Nat.le_trans hsz ch.size);have bW:=ch.grown gr6 ch.size (fun k hk=>by cases hk;exact Nat.le_refl _)
      have f6:=fW.l bW;have r6:=rW.l bW;have b06:=aa bW0 bW;refine wpAnyH_ready (rs:=[7]) (by kernel_rfl) (by simp) ?_;refine AllReadyH.cons rfl (fun K hK=> ?_) AllReadyH.nil
      refine mg rfl (.tmp 121) (.tmp 126) 96 rfl _ _ v6 w6 rfl rfl hrun ?_;refine hK.out _ _ (f6.c 1 rfl) (fun hS7=> ?_)
      clear hK K;refine tq 8 (v6) rfl (fun w0 _=>by go_simp) hS7 ?_
      simp only[Act.put,List.getElem_toArray,List.getElem_cons_succ,List.getElem_cons_zero,List.setIfInBounds_toArray,List.set_cons_zero,List.set_cons_succ];refine wpAnyH_done (by kernel_rfl) ?_ _
      go_wp2_with fail
      go_meet
      exact⟨o6,r6,f6,b06⟩
     ·go_simp
      refine(HFR.out _).mono ?_;rintro z wB ⟨vB,rfl,rB,bB⟩;have fB:=fd.l bB;have b0B:=aa b0d bB;have rF:=rd.l bB;refine hK.out _ _ (fB.c 1 rfl) (fun hS3=> ?_)
      clear hK K;refine wpAnyH_ready (rs:=[1,6]) (by kernel_rfl) (by simp) ?_;refine AllReadyH.cons rfl (fun K hK=> ?_) (AllReadyH.cons rfl (fun K hK=> ?_) AllReadyH.nil)
      ·go_simp
       have a1:=af wB (.cells #[.bool ng] 4);have o1:=GH wB ng;have fa:=fB.l a1;have b0a:=aa b0B a1;have ra:=rF.l a1;have rE:=rB.l a1;have hsz:=b0B.size;refine hK.out _ _ (fa.c 1 rfl) (fun hS1=> ?_)
       clear hK K;generalize wB.alloc (.cells #[.bool ng] 4)=wA at*;refine wpAnyH_ready (rs:=[6]) (by kernel_rfl) (by simp) ?_;refine AllReadyH.cons rfl (fun K hK=> ?_) AllReadyH.nil
       go_simp
       refine(HBE.out _ _ rE).mono ?_;rintro z wC ⟨gC,rfl,oC,bC⟩;have fC:=fa.l bC;refine hK.out _ _ (fC.c 1 rfl) (fun hS6=> ?_)
       clear hK K;have oA:=o1.l bC;have ch:=aa a1 bC;have fW:=fB;have rW:=rF;have bW0:=b0B;obtain⟨v6,w6,hrun,o6,gr6⟩:=vV 96 96 i0 underlying96 hi hz0 hz1 hz2 (oA.wider hsz) hbl.symm oC (by simp only[List.length_cons,List.length_nil];omega) (Nat.le_trans hsz ch.size);have bW:=ch.grown gr6 ch.size (fun k hk=>by cases hk;exact Nat.le_refl _)
       have f6:=fW.l bW;have r6:=rW.l bW;have b06:=aa bW0 bW;refine wpAnyH_ready (rs:=[7]) (by kernel_rfl) (by simp) ?_;refine AllReadyH.cons rfl (fun K hK=> ?_) AllReadyH.nil
       refine mg rfl (.tmp 121) (.tmp 126) 96 rfl _ _ v6 w6 rfl rfl hrun ?_;refine hK.out _ _ (f6.c 1 rfl) (fun hS7=> ?_)
       clear hK K;refine tq 8 (v6) rfl (fun w0 _=>by go_simp) hS7 ?_
       simp only[Act.put,List.getElem_toArray,List.getElem_cons_succ,List.getElem_cons_zero,List.setIfInBounds_toArray,List.set_cons_zero,List.set_cons_succ];refine wpAnyH_done (by kernel_rfl) ?_ _
       go_wp2_with fail
       go_meet
       exact⟨o6,r6,f6,b06⟩
      ·go_simp
       refine(HBE.out _ _ rB).mono ?_;rintro z wA ⟨gC,rfl,oB,bC⟩;have fA:=fB.l bC;have b0A:=aa b0B bC;have rA:=rF.l bC;refine hK.out _ _ (fA.c 1 rfl) (fun hS6=> ?_)
       clear hK K;refine wpAnyH_ready (rs:=[1]) (by kernel_rfl) (by simp) ?_;refine AllReadyH.cons rfl (fun K hK=> ?_) AllReadyH.nil
       go_simp
       have a1:=af wA (.cells #[.bool ng] 4);have oA:=GH wA ng;have fC:=fA.l a1;have b0C:=aa b0A a1;have rC:=rA.l a1;have oC:=oB.l a1;have hsz:=b0A.size;refine hK.out _ _ (fC.c 1 rfl) (fun hS1=> ?_)
       clear hK K;generalize wA.alloc (.cells #[.bool ng] 4)=wC at*;have ch:=a1;have fW:=fA;have rW:=rA;have bW0:=b0A;obtain⟨v6,w6,hrun,o6,gr6⟩:=vV 96 96 i0 underlying96 hi hz0 hz1 hz2 (oA.wider hsz) hbl.symm oC (by simp only[List.length_cons,List.length_nil];omega) (Nat.le_trans hsz ch.size);have bW:=ch.grown gr6 ch.size (fun k hk=>by cases hk;exact Nat.le_refl _)
       have f6:=fW.l bW;have r6:=rW.l bW;have b06:=aa bW0 bW;refine wpAnyH_ready (rs:=[7]) (by kernel_rfl) (by simp) ?_;refine AllReadyH.cons rfl (fun K hK=> ?_) AllReadyH.nil
       refine mg rfl (.tmp 121) (.tmp 126) 96 rfl _ _ v6 w6 rfl rfl hrun ?_;refine hK.out _ _ (f6.c 1 rfl) (fun hS7=> ?_)
       clear hK K;refine tq 8 (v6) rfl (fun w0 _=>by go_simp) hS7 ?_
       simp only[Act.put,List.getElem_toArray,List.getElem_cons_succ,List.getElem_cons_zero,List.setIfInBounds_toArray,List.set_cons_zero,List.set_cons_succ];refine wpAnyH_done (by kernel_rfl) ?_ _
       go_wp2_with fail
       go_meet
       exact⟨o6,r6,f6,b06⟩
    case rest=>
     obtain⟨o4,r4,f4,b4⟩:=hcut;have hbl:=wk E ex;have hfl:=wk F fr;have hol:(ng::bnL E ex).length=1+ex:=by simp[hbl];omega
     obtain⟨gb,cb,hs,hc1,hc2,hg,-⟩:=SW o4 (by omega);rw[hol] at hs hc1;subst hs;have x2:=f4.c 2 rfl;clear f3 b03 rs
     go_wp2_with fail
     refine(HBF.out _ _ r4).mono ?_;rintro z w5 ⟨g5,rfl,o5,b5⟩;have o45:=o4.l b5;have b05:=aa b4 b5;clear x2 r4 f4 o4;obtain⟨i0,hi,hz0,hz1,hz2⟩:=info_parts Tryz.infoB;obtain⟨v6,w6,hrun,o6,gr6⟩:=vV 96 96 i0 underlying96 hi hz0 hz1 hz2 o45 hfl.symm o5 (by rw[hol];omega) b05.size;have b06:yB w w6:=b05.grown gr6 b05.size (fun k hk=>(World.ownsRow.lt o45 k hk).1)
     have h6l:((ng::bnL E ex)++bnL F fr).length=nb:=by rw[List.length_append,hol,hfl,hnb]
     obtain⟨g6,c6,hs6,hc61,hc62,hg6,hcell⟩:=SW o6 (by omega);rw[h6l] at hs6 hc61 hcell;subst hs6;have HT:Hid _:=HPT.out g6 c6 w6 hcell;clear hcell o6 gr6 o45 o5 b5 b4 hbl hfl hol h6l HPT HBF HBE HFR
     go_wp2_with (at_builtin;refine kq (by rfl) _ _ 96 (by rfl) _ _ _ w6 (by rfl) (by rfl) hrun ?_)
     go_wp2_with fail
     refine Calls.mono HT.out ?_;rintro z w7 ⟨rfl,b7⟩
     go_wp2
     go_ret
     exact⟨rfl,aa b06 b7⟩
def jY (bf:Nat→Bool):Nat→Nat
 |0=>0
 |n+1=>jY bf n*2+if bf n then 1 else 0
theorem DZ (bf:Nat→Bool): ∀n,jY bf n<2^n
 |0=>by simp[jY]
 |n+1=>by
  have:=DZ bf n;rw[jY,Nat.pow_succ]
  split<;>omega
theorem uz (ts:List Nat)(f:Nat): ∀n,jY (fun i=>decide (fU ts (f+i)=1)) n=eH ts f n
 |0=>rfl
 |n+1=>by
  rw[jY,eH,uz ts f n];have:=xW ts (f+n)
  by_cases h:fU ts (f+n)=1
  ·rw[h];simp;omega
  ·rw[show fU ts (f+n)=0 from by omega];simp;omega
theorem pV (b off n cap:Nat)(bf:Nat→Bool)(w:World)(hn:n≤64)(hc: ∀i,i<n→w.cell? ⟨b,off+i,none⟩=some (.bool (bf i))):
  yC 45 #[.slice (some ⟨b,off,none⟩) n cap] w (cG w (jY bf n)):=by
 have HCC:Hid _:=hc;clear hc
 go_enter func45,ntmps45
 go_wp2
 go_loopw [3,4] (fun av iv wr=> ∃k:Nat,k≤n∧iv=yi (k:Int)∧Rd wr .i64 av (Dg.dg 65536 (jY bf k))∧yB w wr) (fun _ iv _=>n-(intOf iv).toNat)
 case atStart=>exact⟨0,Nat.zero_le _,rfl,(aQ _ 0 0 _).rd,Below.refl _ _⟩
 case round=>
  obtain⟨k,hk,rfl,hr,bel⟩:=hrel;obtain⟨m,em⟩: ∃m,jY bf k=m:=⟨_,rfl⟩;rw[em] at hr;obtain⟨ao,ca,rfl⟩:=hr.shape
  by_cases hlt:k<n
  ·have hcell:=HCC.out k hlt
   have hvl:=DZ bf k;have hpw:(2:Nat)^k≤2^63:=Nat.pow_le_pow_right (by omega) (by omega);have hsv:jY bf (k+1)=jY bf k*2+if bf k then 1 else 0:=rfl
   rw[em] at hvl hsv;have hln:(Dg.dg 65536 m).length≤4:=Dg.dg_len_le 65536 m 4 (by omega) (by omega);have hln2:(Dg.dg 65536 (m*2)).length≤4:=Dg.dg_len_le 65536 (m*2) 4 (by omega) (by omega);obtain⟨bb,ebb⟩: ∃x,bf k=x:=⟨_,rfl⟩;rw[ebb] at hcell hsv;have HSV:Hid (jY bf (k+1)=m*2+if bb then 1 else 0):=hsv
   have a1:=af wr (.cells #[yi 2] 3);have r2:Rd (wr.alloc (.cells #[yi 2] 3)) .i64 (.slice (some ⟨wr.heap.size,0,none⟩) 1 1) [2]:=cE (w:=wr) (k:= .i64) (e:=3) [2] #[yi 2] rfl (by unfold maxLen;simp);have ht:=fN _ _ _ [2] _ (hr.l a1) r2 (Dg.small_dg 65536 m (by omega)) (fun i=>by
    match i with
    |0=>decide
    |i+1=>simp) (by omega) (by simp)
   rw[Dg.vl_dg 65536 m (by omega),show Dg.vl 65536 [2]=2 from rfl] at ht
   have HT:Hid (yC 61 #[yS ao m ca,.slice (some ⟨wr.heap.size,0,none⟩) 1 1] (wr.alloc (.cells #[yi 2] 3)) (cG (wr.alloc (.cells #[yi 2] 3)) (m*2))):=ht;have c0:=cell_later bel hcell;have bw:=aa bel a1;clear ht hsv ebb em hvl hpw
   go_wp2_with fail
   refine Calls.mono HT.out ?_;rintro z w2 ⟨v2,rfl,rd2,b2⟩;obtain⟨vo,vc,hv2⟩:=rd2.shape;subst hv2;have c2:=cell_later b2 (cell_later a1 c0);have bw2:=aa bw b2
   cases bb
   ·go_wp2
    go_roundw
    case rel=>exact⟨k+1,by omega,by go_num,by rw[HSV.out];exact rd2,bw2⟩
    case measure=>simp[intOf];omega
   ·have a3:=af w2 (.cells #[yi 1] 3)
    have r1:Rd (w2.alloc (.cells #[yi 1] 3)) .i64 (.slice (some ⟨w2.heap.size,0,none⟩) 1 1) [1]:=cE (w:=w2) (k:= .i64) (e:=3) [1] #[yi 1] rfl (by unfold maxLen;simp);have hp:=ew _ _ _ [1] _ (rd2.l a3) r1 (Dg.small_dg 65536 (m*2) (by omega)) (fun i=>by
     match i with
     |0=>decide
     |i+1=>simp) (Dg.norm_dg 65536 (m*2) (by omega)) (fun _=>by simp) (by omega) (by simp)
    rw[Dg.vl_dg 65536 (m*2) (by omega),show Dg.vl 65536 [1]=1 from rfl] at hp
    have HP:Hid (yC 47 #[.slice vo (Dg.dg 65536 (m*2)).length vc,.slice (some ⟨w2.heap.size,0,none⟩) 1 1] (w2.alloc (.cells #[yi 1] 3)) (cG (w2.alloc (.cells #[yi 1] 3)) (m*2+1))):=hp;have bw3:=aa bw2 a3;clear hp
    go_wp2_with fail
    refine Calls.mono HP.out ?_;rintro z w4 ⟨v4,rfl,rd4,b4⟩
    go_wp2
    go_roundw
    case rel=>exact⟨k+1,by omega,by go_num,by rw[HSV.out];exact rd4,aa bw3 b4⟩
    case measure=>simp[intOf];omega
  ·have HK:Hid (k=n∧jY bf k=m):=⟨by omega,em⟩
   clear em
   go_wp2
   go_ret
   obtain⟨h1,h2⟩:=HK.out;subst h1 h2;exact⟨_,rfl,hr,bel⟩
end Go.Proofs.YtpainhklfoaniaaGreatDoor

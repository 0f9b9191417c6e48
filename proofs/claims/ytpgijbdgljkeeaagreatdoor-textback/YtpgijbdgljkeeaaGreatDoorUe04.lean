/-
  Texts laid together: Ce2, Ef1, Ce3.
-/
import Derived.Test.YtpgijbdgljkeeaaGreatDoorUe03
set_option maxRecDepth 100000
set_option maxHeartbeats 12800000
namespace Go.Proofs.YtpgijbdgljkeeaaGreatDoor
open _root_.Go.Proofs.Tryz
open Go.RowKit
def bnL (a many:Nat):List Bool:=(List.range many).map fun i=>decide (a/2^ (many-1-i) % 2=1)
theorem wk (a many:Nat):(bnL a many).length=many:=by simp[bnL]
theorem ach {w:World}{base g n:Nat}{bs:List Bool}(h:jp w base (.slice (some ⟨g,0,none⟩) n n) bs)(hn:n=bs.length){k:IntKind}{v:Value}{zs:List Nat}(hr:Rd w k v zs):wF g v zs:=fun hp a m c hv=>by
 subst hn;obtain⟨ao,cap,rfl,_,_,h3⟩:=hr;obtain⟨b,off,rfl,hc⟩:=h3 hp
 cases hv
 show b≠g
 intro e;subst e;have h0:=hc 0 hp
 rcases h.2 with⟨hv,_⟩| ⟨g',cap',cur,hv,hb,hh,hnc,hcm,hcs,htake⟩
 ·simp at hv
 ·simp only[Value.slice.injEq,Option.some.injEq,Addr.mk.injEq,and_true,true_and] at hv
  obtain⟨rfl,rfl⟩:=hv;have hcur:cur.toList=bs.map Value.bool:=by
   rw[←htake,List.take_of_length_le (by rw[Array.length_toList,hcs];omega)]
  unfold World.cell? at h0;simp only[hh] at h0;rw[←Array.getElem?_toList,hcur,List.getElem?_map] at h0
  cases hx:bs[off+0]? with
  |none=>rw[hx] at h0;simp at h0
  |some y=>rw[hx] at h0;simp at h0
def BnI (a many j:Nat)(cur:List Bool):Prop:=
 cur.length=many∧ ∀i,i<many→cur.getD i false=if many-j≤i then decide (a/2^ (many-1-i) % 2=1) else false
theorem ZS {a many j:Nat}{cur:List Bool}(h:BnI a many j cur)(hj:j<many):BnI a many (j+1) (cur.set (many-1-j) (decide (a/2^j % 2=1))):=by
 obtain⟨h1,h2⟩:=h;refine⟨by simpa using h1,fun i hi=> ?_⟩
 by_cases e:many-1-j=i
 ·rw[e,List.getD_eq_getElem?_getD,List.getElem?_set_self (by omega),if_pos (by omega),show many-1-i=j from by omega]
  rfl
 ·rw[List.getD_eq_getElem?_getD,List.getElem?_set_ne e,←List.getD_eq_getElem?_getD,h2 i hi]
  by_cases c:many-j≤i
  ·rw[if_pos c,if_pos (by omega)]
  ·rw[if_neg c,if_neg (by omega)]
theorem aci {a many:Nat}{cur:List Bool}(h:BnI a many many cur):cur=bnL a many:=by
 obtain⟨h1,h2⟩:=h;apply List.ext_getElem (by rw[wk];exact h1);intro i hi1 hi2;have:=h2 i (by omega);rw[if_pos (by omega),List.getD_eq_getElem?_getD,List.getElem?_eq_getElem hi1] at this;simp only[Option.getD_some] at this;rw[this];simp[bnL]
theorem Do (va:Value)(a many:Nat)(w:World)(ha:Rd w .i64 va (Dg.dg 65536 a))(hal:a<340282366920938463463374607431768211456)(hm:many≤100)(hm1:1≤many):
  yC 90 #[va,yi many] w fun z w'=> ∃g,z= .returned (.slice (some ⟨g,0,none⟩) many many)∧jp w' w.heap.size (.slice (some ⟨g,0,none⟩) many many) (bnL a many)∧yB w w':=by
 obtain⟨i0,hi,hz0,hz1,hz2⟩:=info_parts Tryz.infoB;obtain⟨ao,ca,rfl⟩:=ha.shape;have HI:Hid (∀(v u:Value) (x:Nat) w1,x<340282366920938463463374607431768211456→Rd w1 .i64 v (Dg.dg 65536 x)→Rd w1 .i64 u [2]→yC 35 #[v,u] w1 (JI w1 (x/2) (x % 2))):=fun v u x w1 hx h1 h2=>by
  have h2':Rd w1 .i64 u (Dg.dg 65536 2):=by
   rw[show Dg.dg 65536 2=[2] from by
    have:=Dg.dg_vl 65536 (by omega) [2] (fun i=>by
     match i with
     |0=>decide
     |i+1=>simp) (fun _=>by simp)
    simpa[Dg.vl] using this]
   exact h2
  have hl:=Dg.dg_len_le 65536 x 8 (by omega) hx;have hl2:=Dg.dg_len_le 65536 2 1 (by omega) (by omega);exact qM v u x 2 w1 h1 h2' (by omega) (by omega) (by omega)
 go_enter func90,ntmps90
 go_wp2_with (at_make;refine wpList_make_full _ rfl _ _ 105 rfl w.heap.size 4 i0 (.bool false) 1 underlying105 hi hz0 hz1 _ _ _ _ many rfl rfl (by omega) (by omega) ?b2 ?b3 (Nat.le_refl _) ?_)
 case b2=>rw[hz2];omega
 case b3=>unfold maxLen;omega
 intro w0 hown hgrow;have own0:jp w0 w.heap.size (.slice (some ⟨w.heap.size,0,none⟩) many many) (List.replicate many false):=by
  rw[toList_madeCells_one] at hown
  simpa[jp] using hown
 have b0:yB w w0:=(Below.refl _ _).grown hgrow (Nat.le_refl _) (fun k h=>by cases h)
 have r0:=ha.l b0;clear hown hgrow
 go_wp2
 go_loopw [0,6] (fun av iv wr=> ∃(j x:Nat) (cur:List Bool),j≤many∧iv=yi ((many:Int)-1-j)∧Rd wr .i64 av (Dg.dg 65536 x)∧Hid (x=a/2^j)∧jp wr w.heap.size (.slice (some ⟨w.heap.size,0,none⟩) many many) cur∧BnI a many j cur∧yB w wr) (fun _ iv _=>(intOf iv+1).toNat)
 case atStart=>exact⟨0,a,List.replicate many false,by omega,by go_num,r0,by show a=a/2^0;simp,own0,⟨by simp,fun i hi=>by rw[if_neg (by omega)];simp[List.getD_eq_getElem?_getD,hi]⟩,b0⟩
 case round=>
  obtain⟨j,x,cur,hj,rfl,rx,HX,own,hI,bel⟩:=hrel;have hcl:=hI.1
  by_cases hlt:j<many
  ·obtain⟨i,ei⟩: ∃i,many-1-j=i:=⟨_,rfl⟩
   have hiI:(many:Int)-1-(j:Int)=(i:Int):=by omega
   have hst:=ZS hI hlt;rw[ei] at hst;rw[hiI];have hxe:=HX.out;have hxl:x<340282366920938463463374607431768211456:=by rw[hxe];exact Nat.lt_of_le_of_lt (Nat.div_le_self _ _) hal
   rw[←hxe] at hst;have hx2:x/2=a/2^ (j+1):=by rw[hxe,Nat.div_div_eq_div_mul,Nat.pow_succ]
   have a1:=af wr (.cells #[yi 2] 3);have r2:Rd (wr.alloc (.cells #[yi 2] 3)) .i64 (.slice (some ⟨wr.heap.size,0,none⟩) 1 1) [2]:=cE (w:=wr) (k:= .i64) (e:=3) [2] #[yi 2] rfl (by unfold maxLen;simp);obtain⟨xo,xc,hvx⟩:=rx.shape;subst hvx;have HT:Hid (yC 35 #[yS xo x xc,.slice (some ⟨wr.heap.size,0,none⟩) 1 1] (wr.alloc (.cells #[yi 2] 3)) (JI (wr.alloc (.cells #[yi 2] 3)) (x/2) (x % 2))):=HI.out _ _ x _ hxl (rx.l a1) r2;have HH:Hid (_∧_∧_):=⟨hst,hx2,hiI⟩;have own1:=own.l a1;have bel1:=aa bel a1;have hil:i<many:=by omega
   clear hst hx2 hiI hxe HX ei hI own bel
   go_wp2_with fail
   refine Calls.mono HT.out ?_;rintro z w2 ⟨vq,vr,rfl,rq,rr,b2⟩;obtain⟨qo,qc,hq⟩:=rq.shape;subst hq;obtain⟨ro,rc,hr⟩:=rr.shape;subst hr;have own2:=own1.l b2;have bel2:=aa bel1 b2;have hc2:=own2.c (by omega) i (by omega);have hf2:=own2.f (by omega) i;have hbb:decide (0< (Dg.dg 65536 (x % 2)).length)=decide (x % 2=1):=by
    rcases(show x % 2=0∨x % 2=1 by omega) with h|h
    ·rw[h];rfl
    ·rw[h]
     have:Dg.dg 65536 1≠[]:=by rw[Ne,Dg.dg_nil_iff 65536 1 (by omega)];omega
     have hp:=List.length_pos_iff.2 this;rw[decide_eq_true (by omega)];rfl
   obtain⟨bb,ebb⟩: ∃y,decide (x % 2=1)=y:=⟨_,rfl⟩;rw[ebb] at hbb HH;have bu:=ag w2 w.heap.size i (.bool bb);have rq3:=bu.rd rq (ach own2 (by omega) rq);have own3:=own2.store (by omega) i bb;have bel3:=bu.below bel2 (Nat.le_refl _);have HR:Hid (_∧_∧_∧_):=⟨rq3,own3,bel3,hbb⟩;clear hbb ebb rr bu rq3 own3 bel3 rq own1 bel1 own2 bel2 b2 a1 r2 HT rx
   go_wp2
   go_roundw
   case rel=>
    obtain⟨hst,hx2,hiI⟩:=HH.out;obtain⟨rq3,own3,bel3,hbb⟩:=HR.out;rw[hbb];exact⟨j+1,x/2,_,by omega,by congr 1;omega,rq3,hx2,own3,hst,bel3⟩
   case measure=>simp only[intOf];omega
  ·have hd: ¬((0:Int)≤(many:Int)-1-(j:Int)):=by omega
   have HJ:Hid (j=many):=(by omega:j=many)
   go_wp2
   go_ret
   have h1:=HJ.out;subst h1;rw[aci hI] at own;exact⟨_,rfl,own,bel⟩
def afv (w:World)(bf:Nat)(fl:List Value)(E F:Nat)(ng:Bool)(s7 s8 s9:Value)(wx:World):Prop:=
 s7=yi E∧s9= .bool ng∧Rd wx .i64 s8 (Dg.dg 65536 F)∧au wx bf 42 fl∧yB w wx
def afw (w:World)(bf:Nat)(fl:List Value)(bs:List Bool)(F:Nat)(s8 s14:Value)(wx:World):Prop:=
 jp wx w.heap.size s14 bs∧Rd wx .i64 s8 (Dg.dg 65536 F)∧au wx bf 42 fl∧yB w wx
theorem ni (w:World):Rd w .i64 yN (Dg.dg 65536 0):=by
 rw[show Dg.dg 65536 0=[] from(Dg.dg_nil_iff 65536 0 (by omega)).2 rfl]
 exact⟨none,0,rfl,Nat.le_refl _,by unfold maxLen;omega,fun h=>absurd h (by simp)⟩
theorem vV {w w0:World}{base g m:Nat}{v:Value}{xs ys:List Bool}(t ty:Nat)(i:TypeInfo)(ht:Tryz.prog.underlying t=some (.slice 4))(hi:Tryz.prog.info? 4=some i)
  (hz:i.zero=some (.bool false)) (hsize:i.size=1) (hby:i.bytes=1)
  (ho:jp w base v xs) (hm:m=ys.length) (hy:jp w w0.heap.size (.slice (some ⟨g,0,none⟩) m m) ys) (hl:xs.length+m≤1000) (hbase:base≤w.heap.size):
  ∃v' w',(Builtin.append_ #[t,t] ty #[v,.slice (some ⟨g,0,none⟩) m m]).run Tryz.prog w= .ok v' w'∧jp w' base v' (xs++ys)∧w.grownBy w' v.ownBlock:=by
 subst hm;obtain⟨v',w',r1,r2,r3,_⟩:=run_append_own (P:=Tryz.prog) (w:=w) base t ty 4 i (.bool false) 1 1 ht hi hz hsize hby rfl (by omega) v xs.length _ ho ⟨g,0,none⟩ ys.length ys.length (ys.map Value.bool) (by simp) (fun j u hj=>by
   have hjl:j<ys.length:=by
    have:=(List.getElem?_eq_some_iff.1 hj).1
    simpa using this
   rw[rO,Nat.zero_add,hy.c rfl j hjl];rw[List.getElem?_map,List.getElem?_eq_getElem hjl] at hj;rw[←hj];simp[List.getD_eq_getElem?_getD,hjl]) (fun u hu=>by
   obtain⟨n,_,rfl⟩:=List.mem_map.1 hu;rfl) (by unfold maxLen;omega) (by omega) hbase
 exact⟨v',w',r1,by unfold jp;rw[List.map_append,List.length_append];exact r2,r3⟩
theorem mg {P:Program}{ops:Array Oper}{o:Oper}{a:Act}{w:World}{K:Act→World→Prop}{Q:Exit→Act→World→Prop}{E:Prop}
  (hg:o.guard=none) (s x:Operand) (t:TypeId) (hop:o.op=Op.call {callee:=Callee.builtin Builtin.append,args:= #[s,x],argTypes:= #[t,t]})
  (v u v':Value) (w':World) (hs:a.eval s=v) (hx:a.eval x=u) (hr:(Builtin.append_ #[t,t] o.type #[v,u]).run P w= .ok v' w') (hK:K (a.put o.dst v') w'):
  if Region.wanted o (yielded ops a.tmps)=true then Oper.wp P o a w K Q else E:=by
 have hw:Region.wanted o (yielded ops a.tmps)=true:=by simp[Region.wanted,hg]
 rw[if_pos hw];unfold Oper.wp;simp[execOp,hop,resolve,invoke,builtin,hs,hx,hr,Result.andThen];exact hK
theorem SW {w:World}{base:Nat}{v:Value}{bs:List Bool}(h:jp w base v bs)(hp:0<bs.length): ∃g cap,v= .slice (some ⟨g,0,none⟩) bs.length cap∧bs.length≤cap∧cap≤maxLen∧base≤g∧ ∀i,i<bs.length→w.cell? ⟨g,i,none⟩=some (.bool (bs.getD i false)):=by
 obtain⟨hl,h2⟩:=h
 rcases h2 with⟨hv,hn⟩| ⟨g,cap,cur,hv,hb,hh,hnc,hcm,hcs,htake⟩
 ·omega
 ·refine⟨g,cap,hv,hnc,hcm,hb,fun i hi'=> ?_⟩
  have hc:=World.ownsRow.cellAt (w:=w) (base:=base) (e:=4) (size:=1) (g:=g) (n:=bs.length) (cap:=cap) (xs:=bs.map Value.bool) ⟨hl,.inr ⟨g,cap,cur,rfl,hb,hh,hnc,hcm,hcs,htake⟩⟩ i (by omega);rw[hc,List.getElem?_map,List.getElem?_eq_getElem hi'];simp[List.getD_eq_getElem?_getD,hi']
theorem GH (w:World)(b:Bool):jp (w.alloc (.cells #[.bool b] 4)) w.heap.size (.slice (some ⟨w.heap.size,0,none⟩) 1 1) [b]:=
 World.ownsRow_lit (e:=4) (size:=1) (base:=w.heap.size) w #[.bool b] 1 (Nat.le_refl _) (by unfold maxLen;omega) rfl
theorem jp.wider {w:World}{base b':Nat}{v:Value}{bs:List Bool}(h:jp w base v bs)(hb:b'≤base):jp w b' v bs:=by
 obtain⟨hl,h2⟩:=h;refine⟨hl, ?_⟩
 rcases h2 with h2| ⟨g,cap,cur,hv,hbg,r⟩
 ·exact .inl h2
 ·exact .inr ⟨g,cap,cur,hv,Nat.le_trans hb hbg,r⟩
theorem Rx (n:Int)(sz ex fr nb:Nat)(R D L G fam wd:Int)(gr:Bool)(c:Int)(g ts:Bool)(so:Option Addr)(tn sc:Nat)(te:Int)(E F:Nat)(ng:Bool)(st:ByteArray)(pa pb pc pd pl:Nat)(bl k kk a1 a2 dl:Int)(d e0:Nat)(w:World)
  (hex:ex≤15) (hex1:1≤ex) (hfr:fr≤64) (hfr1:1≤fr) (hnb:1+ex+fr=nb) (hE:E<65536) (hD1:1≤D) (hD2:D≤64) (_hne:(wd==0)=false) (hne2: ¬wd=0)
  (HU:c=2→IntKind.i64.wrap (te+bl)=te+bl∧IntKind.i64.wrap (te+bl-1)=te+bl-1∧IntKind.i64.wrap (te+bl-1+80000)=te+bl-1+80000∧(te+bl-1+80000).tdiv wd=a1∧(80000:Int).tdiv wd=a2∧IntKind.i64.wrap a1=a1∧IntKind.i64.wrap a2=a2∧IntKind.i64.wrap (a1-a2)=a1-a2∧IntKind.i64.wrap (a1-a2-D)=a1-a2-D∧IntKind.i64.wrap (a1-a2-D+1)=kk∧max L kk=k∧IntKind.i64.wrap (wd*k)=wd*k∧IntKind.i64.wrap (te-wd*k)=te-wd*k∧IntKind.i64.wrap (k-L)=(e0:Int)∧e0<65536)
  (HF:yJ 14 #[yi n] (.tuple #[yhV sz ex fr R D L G gr fam,.bool true]))
  (HWI:yJ 52 #[ygV R D L G gr] (yi wd))
  (HPA: ∀w1,yC 50 #[yi 63] w1 (cG w1 pa))
  (HPB: ∀w1,yC 50 #[yi 62] w1 (cG w1 pb))
  (HPC: ∀v u w1,Rd w1 .i64 v (Dg.dg 65536 pa)→Rd w1 .i64 u (Dg.dg 65536 pb)→yC 53 #[v,u] w1 (cG w1 pc))
  (HPD: ∀w1,yC 50 #[yi ((fr:Int)-1)] w1 (cG w1 pd))
  (HPL: ∀w1,yC 50 #[yi (D-1)] w1 (cG w1 pl))
  (HLN:c=2→yH w 86 #[yS so tn sc] (yi bl))
  (HFL:c=2→ ∀w1,yB w w1→yC 89 #[ydV false (yS so tn sc) (te-wd*k)] w1 (cG w1 d))
  (HLD: ∀v w1,Rd w1 .i64 v (Dg.dg 65536 d)→yC 86 #[v] w1 (yR w1 (yi dl)))
  (HLS:dl=D→ ∀v u w1,Rd w1 .i64 v (Dg.dg 65536 d)→Rd w1 .i64 u (Dg.dg 65536 pl)→yC 79 #[v,u] w1 (cG w1 (d-pl)))
  (HFR: ∀w1,yC 77 #[yi E] w1 (cG w1 E))
  (HBE: ∀v w1,Rd w1 .i64 v (Dg.dg 65536 E)→yC 90 #[v,yi ex] w1 fun z w'=> ∃gg,z= .returned (.slice (some ⟨gg,0,none⟩) ex ex)∧jp w' w1.heap.size (.slice (some ⟨gg,0,none⟩) ex ex) (bnL E ex)∧yB w1 w')
  (HBF: ∀v w1,Rd w1 .i64 v (Dg.dg 65536 F)→yC 90 #[v,yi fr] w1 fun z w'=> ∃gg,z= .returned (.slice (some ⟨gg,0,none⟩) fr fr)∧jp w' w1.heap.size (.slice (some ⟨gg,0,none⟩) fr fr) (bnL F fr)∧yB w1 w')
  (HPT: ∀gg cap w1,(∀i,i<nb→w1.cell? ⟨gg,i,none⟩=some (.bool (((ng::bnL E ex)++bnL F fr).getD i false)))→yC 91 #[yi n,.slice (some ⟨gg,0,none⟩) nb cap] w1 (yR w1 (.string st)))
  (HC:(c=1∧E=0∧F=0∧ng=g)∨(c=5∧E=0∧F=0∧ng=true)∨(c=3∧n=3∧E+1=2^ex∧F=pa∧ng=g)∨(c=3∧n≠3∧E+1=2^ex∧F=0∧ng=g)∨(c=4∧n=3∧E+1=2^ex∧F=pc∧ng=g)∨(c=4∧n≠3∧E+1=2^ex∧F=pd∧ng=g)∨(c=2∧ng=g∧((fam=2∧E=e0∧F=d)∨(fam≠2∧dl≠D∧E=e0∧F=d)∨(fam≠2∧dl=D∧n=3∧E=e0+1∧F=d)∨(fam≠2∧dl=D∧n≠3∧E=e0+1∧F=d-pl)))):
  yC 43 #[yi n,yoV c g ts (yS so tn sc) te] w (yR w (.string st)):=by
 replace HF:Hid _:=HF;replace HWI:Hid _:=HWI;replace HPA:Hid _:=HPA;replace HPB:Hid _:=HPB;replace HPC:Hid _:=HPC;replace HPD:Hid _:=HPD;replace HPL:Hid _:=HPL;replace HLN:Hid _:=HLN;replace HFL:Hid _:=HFL;replace HLD:Hid _:=HLD;replace HLS:Hid _:=HLS;replace HFR:Hid _:=HFR;replace HBE:Hid _:=HBE;replace HBF:Hid _:=HBF;replace HPT:Hid _:=HPT;replace HC:Hid _:=HC;replace HU:Hid _:=HU;have b0:=af w (.cells (yoA c g ts (yS so tn sc) te) 49);have q0:=ah w (yoL c g ts (yS so tn sc) te) 49
 go_enter func43,ntmps43
 go_wp2_with fail
 refine(HF.out _).mono ?_;rintro z w1 ⟨rfl,b1⟩;have ba:=af w1 (.cells (yhA sz ex fr R D L G gr fam) 42);have f2:=ah w1 (yhL sz ex fr R D L G gr fam) 42;have q2:=(q0.l b1).l ba;have b02:=aa (aa b0 b1) ba;clear b0 q0 b1 ba HF
 go_upto_region 2 with fail
 generalize w1.alloc (.cells (yhA sz ex fr R D L G gr fam) 42)=w2 at f2 q2 b02⊢;generalize w1.heap.size=bf at f2⊢;obtain⟨y0,y1,y2,y3,y4⟩:=q2.cs5;obtain⟨fx0,fx1,fx2,fx3,fx4,fx5,fx6,fx7,fx8⟩:=f2.cs9
 go_wp2
 go_loop [10,11] (fun lv iv=> ∃j x:Nat,Hid (x=2^j)∧j≤ex∧x≤32768∧lv=yi (x:Int)∧iv=yi (j:Int)) (fun _ iv=>ex-(intOf iv).toNat)
 case atStart=>exact⟨0,1,rfl,by omega,by omega,rfl,rfl⟩
 case round=>
  obtain⟨j,x,HX,hj,hx,rfl,rfl⟩:=hrel
  by_cases hlt:j<ex
  ·have hx2:=HX.out
   have hp:2*x=2^ (j+1):=by rw[Nat.pow_succ,hx2];omega
   have hp2:(2:Nat)^ (j+1)≤2^15:=Nat.pow_le_pow_right (by omega) (by omega);have HY:Hid (_∧_):=⟨hp,hp2⟩;clear hx2 hp hp2
   go_wp2
   obtain⟨hp,hp2⟩:=HY.out;exact⟨⟨j+1,2*x,hp,by omega,by omega,by go_num,by go_num⟩,by simp only[intOf];omega⟩
  ·have hx2:=HX.out
   rw[show j=ex from by omega] at hx2
   obtain⟨x1,hx1⟩: ∃y,x=y+1:=⟨x-1,by have:0<2^ex:=Nat.pow_pos (by omega);omega⟩;have HX1:Hid (x1+1=2^ex):=by rw[←hx1];exact hx2
   have hw1:IntKind.i64.wrap ((x:Int)-1)=(x1:Int):=by rw[show(x:Int)-1=(x1:Int) from by omega];exact IntWalk.i64_in _ ⟨by omega,by omega⟩
   have hdI: ¬((j:Int)< (ex:Int)):=by omega
   clear hx2 hx1 HX
   go_upto_block 2 with fail
   go_cut [7,8,9] (fun s7 s8 s9 wx=>afv w bf (yhL sz ex fr R D L G gr fam) E F ng s7 s8 s9 wx)
   case first=>
    rcases HC.out with h|h|h|h|h|h|h
    ·obtain⟨rfl,rfl,rfl,rfl⟩:=h
     clear HC;have rz:=ni w2
     go_wp2_with fail
     go_meet
     exact⟨rfl,rfl,rz,f2,b02⟩
    ·obtain⟨rfl,rfl,rfl,rfl⟩:=h
     clear HC;have rz:=ni w2
     go_wp2_with fail
     go_meet
     exact⟨rfl,rfl,rz,f2,b02⟩
    ·obtain⟨rfl,rfl,hEE,rfl,rfl⟩:=h
     have hx1:x1=E:=by have:=HX1.out;omega
     subst hx1;clear HC hEE
     go_wp2_with fail
     refine(HPA.out _).mono ?_;rintro z w3 ⟨v3,rfl,r3,b3⟩;have f3:=f2.l b3;have b03:=aa b02 b3;clear f2 q2 b02 b3 y0 y1 y2 y3 y4 fx0 fx1 fx2 fx3 fx4 fx5 fx6 fx7 fx8
     go_wp2_with fail
     go_meet
     exact⟨rfl,rfl,r3,f3,b03⟩
    ·obtain⟨rfl,hn,hEE,rfl,rfl⟩:=h
     have _hn3:(n==3)=false:=(by simpa using hn);have _hn4:(n != 3)=true:=(by simpa using hn);have hx1:x1=E:=by have:=HX1.out;omega
     subst hx1;clear HC hEE;have rz:=ni w2
     go_wp2_with fail
     go_meet
     exact⟨rfl,rfl,rz,f2,b02⟩
    ·obtain⟨rfl,rfl,hEE,rfl,rfl⟩:=h
     have hx1:x1=E:=by have:=HX1.out;omega
     subst hx1;clear HC hEE;have hfw:IntKind.i64.wrap ((fr:Int)-1)=(fr:Int)-1:=IntWalk.i64_in _ ⟨by omega,by omega⟩
     go_wp2_with fail
     refine(HPD.out _).mono ?_;rintro z w3 ⟨v3,rfl,r3,b3⟩;have f3:=f2.l b3;have b03:=aa b02 b3;clear f2 q2 b02 b3 y0 y1 y2 y3 y4 fx0 fx1 fx2 fx3 fx4 fx5 fx6 fx7 fx8 r3
     go_wp2_with fail
     refine(HPA.out _).mono ?_;rintro z w4 ⟨v4,rfl,r4,b4⟩;have f4:=f3.l b4;have b04:=aa b03 b4;clear f3 b03 b4
     go_wp2_with fail
     refine(HPB.out _).mono ?_;rintro z w5 ⟨v5,rfl,r5,b5⟩;have f5:=f4.l b5;have b05:=aa b04 b5;have r45:=r4.l b5;clear f4 b04 b5 r4
     go_wp2_with fail
     refine(HPC.out _ _ _ r45 r5).mono ?_;rintro z w6 ⟨v6,rfl,r6,b6⟩;have f6:=f5.l b6;have b06:=aa b05 b6;clear f5 b05 b6 r45 r5
     go_wp2_with fail
     go_meet
     exact⟨rfl,rfl,r6,f6,b06⟩
    ·obtain⟨rfl,hn,hEE,rfl,rfl⟩:=h
     have _hn3:(n==3)=false:=(by simpa using hn);have _hn4:(n != 3)=true:=(by simpa using hn);have hx1:x1=E:=by have:=HX1.out;omega
     subst hx1;clear HC hEE;have hfw:IntKind.i64.wrap ((fr:Int)-1)=(fr:Int)-1:=IntWalk.i64_in _ ⟨by omega,by omega⟩
     go_wp2_with fail
     refine(HPD.out _).mono ?_;rintro z w3 ⟨v3,rfl,r3,b3⟩;have f3:=f2.l b3;have b03:=aa b02 b3;clear f2 q2 b02 b3 y0 y1 y2 y3 y4 fx0 fx1 fx2 fx3 fx4 fx5 fx6 fx7 fx8
     go_wp2_with fail
     go_meet
     exact⟨rfl,rfl,r3,f3,b03⟩
    ·obtain⟨rfl,rfl,h⟩:=h
     have HLN2:Hid _:=HLN.out rfl;have HFL2:Hid _:=HFL.out rfl;obtain⟨U4,U5,U6,Q1,Q2,U7,U8,U9,UA,UB,M,UC,UD,UE,UF⟩:=HU.out rfl;have HH:Hid _:=h;clear HC h HU HLN HFL
     go_wp2_with fail
     refine(HWI.out _).mono ?_;rintro z w3 ⟨rfl,b3⟩;have f3:=f2.l b3;have q3:=q2.l b3;have b03:=aa b02 b3;clear f2 q2 b02 b3 y0 y1 y2 y3 y4 fx0 fx1 fx2 fx3 fx4 fx5 fx6 fx7 fx8;have bd:yB w3 w3.drew:=(Below.refl _ _).drew;have f3d:=f3.l bd;have q3d:=q3.l bd;have b3d:=aa b03 bd;have xd:=f3d.c 4 rfl;have xl:=f3d.c 5 rfl;have zm:=q3d.c 3 rfl;have ze:=q3d.c 4 rfl
     go_wp2_with fail
     go_region_held3 (fun wq=>wq.cell? ⟨w.heap.size,3,none⟩=some (yS so tn sc)∧wq.cell? ⟨w.heap.size,4,none⟩=some (yi te)∧wq.cell? ⟨bf,4,none⟩=some (yi D)∧wq.cell? ⟨bf,5,none⟩=some (yi L)) (go_keep) (first
      | (go_at_call 86;have hgd:=b3d;clear hgd;refine(HLN2.out _ b3d).mono ?_;rintro z wa ⟨rfl,bb⟩;have b0a:=aa b3d bb;have fa:=f3d.l bb;have qa:=q3d.l bb;have ya3:=qa.c 3 rfl;have ya4:=qa.c 4 rfl;have xa4:=fa.c 4 rfl;have xa5:=fa.c 5 rfl;clear b3d))
     clear xd xl zm ze f3 q3 b03 f3d q3d bb ya3 ya4 xa4 xa5;have ya3:=qa.c 3 rfl;have ya4:=qa.c 4 rfl
     go_wp2_with fail
     refine(HFL2.out _ b0a).mono ?_;rintro z w4 ⟨v4,rfl,r4,b4⟩;have f4:=fa.l b4;have b04:=aa b0a b4;clear fa qa b0a b4 ya3 ya4;have x5:=f4.c 5 rfl;have x8:=f4.c 8 rfl;have x4:=f4.c 4 rfl
     rcases HH.out with h|h|h|h
     ·obtain⟨rfl,rfl,rfl⟩:=h
      clear HH
      go_wp2_with fail
      go_meet
      exact⟨rfl,rfl,r4,f4,b04⟩
     ·obtain⟨hf,hd,rfl,rfl⟩:=h
      have hf1:(fam==2)=false:=by simpa using hf
      have hf2:(fam != 2)=true:=by simpa using hf
      have hd1:(dl==D)=false:=by simpa using hd
      clear HH;have bd:yB w4 w4.drew:=(Below.refl _ _).drew;have f4d:=f4.l bd;have b4d:=aa b04 bd;have r4d:=r4.l bd;have xe:=f4d.c 4 rfl
      go_wp2_with fail
      go_region_held3 (fun wq=>wq.cell? ⟨bf,4,none⟩=some (yi D)) (go_keep) (first
       | (go_at_call 86;have hgd:=b4d;clear hgd;refine(HLD.out _ _ r4d).mono ?_;rintro z w5 ⟨rfl,bb⟩;have b05:=aa b4d bb;have f5:=f4d.l bb;have r5:=r4d.l bb;have xe5:=f5.c 4 rfl;clear b4d))
      clear xe xe5 f4 b04 r4 f4d r4d bb x4 x5 x8
      go_wp2_with fail
      go_meet
      exact⟨rfl,rfl,r5,f5,b05⟩
     ·obtain⟨hf,hd,rfl,rfl,rfl⟩:=h
      have hf1:(fam==2)=false:=by simpa using hf
      have hf2:(fam != 2)=true:=by simpa using hf
      subst hd;clear HH;have bd:yB w4 w4.drew:=(Below.refl _ _).drew;have f4d:=f4.l bd;have b4d:=aa b04 bd;have r4d:=r4.l bd;have xe:=f4d.c 4 rfl
      go_wp2_with fail
      go_region_held3 (fun wq=>wq.cell? ⟨bf,4,none⟩=some (yi dl)) (go_keep) (first
       | (go_at_call 86;have hgd:=b4d;clear hgd;refine(HLD.out _ _ r4d).mono ?_;rintro z w5 ⟨rfl,bb⟩;have b05:=aa b4d bb;have f5:=f4d.l bb;have r5:=r4d.l bb;have xe5:=f5.c 4 rfl;clear b4d))
      clear xe xe5 f4 b04 r4 f4d r4d bb x4 x5 x8
      go_wp2_with fail
      go_meet
      exact⟨by go_num,rfl,r5,f5,b05⟩
     ·obtain⟨hf,hd,hn,rfl,rfl⟩:=h
      have hf1:(fam==2)=false:=by simpa using hf
      have hf2:(fam != 2)=true:=by simpa using hf
      have _hn3:(n==3)=false:=(by simpa using hn);have _hn4:(n != 3)=true:=(by simpa using hn);subst hd;clear HH;have bd:yB w4 w4.drew:=(Below.refl _ _).drew;have f4d:=f4.l bd;have b4d:=aa b04 bd;have r4d:=r4.l bd;have xe:=f4d.c 4 rfl
      go_wp2_with fail
      go_region_held3 (fun wq=>wq.cell? ⟨bf,4,none⟩=some (yi dl)) (go_keep) (first
       | (go_at_call 86;have hgd:=b4d;clear hgd;refine(HLD.out _ _ r4d).mono ?_;rintro z w5 ⟨rfl,bb⟩;have b05:=aa b4d bb;have f5:=f4d.l bb;have r5:=r4d.l bb;have xe5:=f5.c 4 rfl;clear b4d))
      clear xe xe5 f4 b04 r4 f4d r4d bb x4 x5 x8;have z4:=f5.c 4 rfl;have hdw:IntKind.i64.wrap (dl-1)=dl-1:=IntWalk.i64_in _ ⟨by omega,by omega⟩
      go_wp2_with fail
      refine(HPL.out _).mono ?_;rintro z w6 ⟨v6,rfl,r6,b6⟩;have f6:=f5.l b6;have b06:=aa b05 b6;have r56:=r5.l b6;clear f5 b05 r5 b6 z4
      go_wp2_with fail
      refine(HLS.out (by trivial) _ _ _ r56 r6).mono ?_;rintro z w7 ⟨v7,rfl,r7,b7⟩;have f7:=f6.l b7;have b07:=aa b06 b7;clear f6 b06 r56 r6 b7
      go_wp2_with fail
      go_meet
      exact⟨by go_num,rfl,r7,f7,b07⟩
   case rest=>
    obtain⟨rfl,rfl,rs,f3,b03⟩:=hcut;obtain⟨w3,hw3⟩: ∃x,x=wc:=⟨_,rfl⟩;subst hw3;obtain⟨fo,fc,rfl⟩:=rs.shape;clear f2 q2 b02 y0 y1 y2 y3 y4 fx0 fx1 fx2 fx3 fx4 fx5 fx6 fx7 fx8 HC HU
    go_upto_region 31 with fail
    go_cut [14] (fun s14 wx=>afw w bf (yhL sz ex fr R D L G gr fam) (ng::bnL E ex) F (yS fo F fc) s14 wx)
    case first=>
     have bd:yB w3 w3.drew:=(Below.refl _ _).drew;have fd:=f3.l bd;have b0d:=aa b03 bd;have rd:=rs.l bd;obtain⟨i0,hi,hz0,hz1,hz2⟩:=info_parts Tryz.infoB;have hbl:=wk E ex;refine wp_region_held_drew (S:=fun wq=>wq.cell? ⟨bf,1,none⟩=some (yi ex)) (by kernel_rfl) (fd.c 1 rfl) (fun hS0=> ?_)
     refine tq 0 (.bool ng) rfl (fun w0 _=>by go_simp) hS0 ?_
     refine tq 2 (yi E) rfl (fun w0 _=>by go_simp) hS0 ?_
     refine tq 4 (.pointer (some ⟨bf,1,none⟩)) rfl (fun w0 _=>by go_simp) hS0 ?_
     refine tq 5 (yi ex) rfl (fun w0 hw0=>by go_simp) hS0 ?_
     refine wpAnyH_ready (rs:=[1,3]) (by kernel_rfl) (by simp) ?_;refine AllReadyH.cons rfl (fun K hK=> ?_) (AllReadyH.cons rfl (fun K hK=> ?_) AllReadyH.nil)
     ·go_simp
      have a1:yB w3 (w3.alloc (.cells #[.bool ng] 4)).drew:=(af w3 (.cells #[.bool ng] 4)).drew;have o1:jp (w3.alloc (.cells #[.bool ng] 4)).drew w3.heap.size (.slice (some ⟨w3.heap.size,0,none⟩) 1 1) [ng]:=(GH w3 ng).l (Below.refl _ _).drew;have fa:=f3.l a1;have hsz:=b03.size;refine hK.out _ _ (fa.c 1 rfl) (fun hS1=> ?_)
      clear hK K;generalize(w3.alloc (.cells #[.bool ng] 4)).drew=wA at*;refine wpAnyH_ready (rs:=[3]) (by kernel_rfl) (by simp) ?_;refine AllReadyH.cons rfl (fun K hK=> ?_) AllReadyH.nil
      go_simp
      refine(HFR.out _).mono ?_;rintro z wB ⟨vB,rfl,rB,bB⟩;have fB:=fa.l bB;refine hK.out _ _ (fB.c 1 rfl) (fun hS3=> ?_)
      clear hK K;refine wpAnyH_ready (rs:=[6]) (by kernel_rfl) (by simp) ?_;refine AllReadyH.cons rfl (fun K hK=> ?_) AllReadyH.nil
      go_simp
      refine(HBE.out _ _ rB).mono ?_;rintro z wC ⟨gC,rfl,oC,bC⟩;have fC:=fB.l bC;refine hK.out _ _ (fC.c 1 rfl) (fun hS6=> ?_)
      clear hK K;have oA:=(o1.l bB).l bC;have ch:=aa (aa a1 bB) bC;have fW:=f3;have rW:=rs;have bW0:=b03;obtain⟨v6,w6,hrun,o6,gr6⟩:=vV 105 105 i0 underlying105 hi hz0 hz1 hz2 (oA.wider hsz) hbl.symm oC (by simp only[List.length_cons,List.length_nil];omega) (Nat.le_trans hsz ch.size);have bW:=ch.grown gr6 ch.size (fun k hk=>by cases hk;exact Nat.le_refl _)
      have f6:=fW.l bW;have r6:=rW.l bW;have b06:=aa bW0 bW;refine wpAnyH_ready (rs:=[7]) (by kernel_rfl) (by simp) ?_;refine AllReadyH.cons rfl (fun K hK=> ?_) AllReadyH.nil
      refine mg rfl (.tmp 121) (.tmp 126) 105 rfl _ _ v6 w6 rfl rfl hrun ?_;refine hK.out _ _ (f6.c 1 rfl) (fun hS7=> ?_)
      clear hK K;refine tq 8 (v6) rfl (fun w0 _=>by go_simp) hS7 ?_
      simp only[Act.put,List.getElem_toArray,List.getElem_cons_succ,List.getElem_cons_zero,List.setIfInBounds_toArray,List.set_cons_zero,List.set_cons_succ];refine wpAnyH_done (by kernel_rfl) ?_ _
      go_wp2_with fail
      go_meet
      exact⟨o6,r6,f6,b06⟩
     ·go_simp
      refine(HFR.out _).mono ?_;rintro z wB ⟨vB,rfl,rB,bB⟩;have fB:=fd.l bB;have b0B:=aa b0d bB;have rF:=rd.l bB;refine hK.out _ _ (fB.c 1 rfl) (fun hS3=> ?_)
      clear hK K;refine wpAnyH_ready (rs:=[1,6]) (by kernel_rfl) (by simp) ?_;refine AllReadyH.cons rfl (fun K hK=> ?_) (AllReadyH.cons rfl (fun K hK=> ?_) AllReadyH.nil)
      ·go_simp
       have a1:=af wB (.cells #[.bool ng] 4);have o1:=GH wB ng;have fa:=fB.l a1;have b0a:=aa b0B a1;have ra:=rF.l a1;have rE:=rB.l a1;have hsz:=b0B.size;refine hK.out _ _ (fa.c 1 rfl) (fun hS1=> ?_)
       clear hK K;generalize wB.alloc (.cells #[.bool ng] 4)=wA at*;refine wpAnyH_ready (rs:=[6]) (by kernel_rfl) (by simp) ?_;refine AllReadyH.cons rfl (fun K hK=> ?_) AllReadyH.nil
       go_simp
       refine(HBE.out _ _ rE).mono ?_;rintro z wC ⟨gC,rfl,oC,bC⟩;have fC:=fa.l bC;refine hK.out _ _ (fC.c 1 rfl) (fun hS6=> ?_)
       clear hK K;have oA:=o1.l bC;have ch:=aa a1 bC;have fW:=fB;have rW:=rF;have bW0:=b0B;obtain⟨v6,w6,hrun,o6,gr6⟩:=vV 105 105 i0 underlying105 hi hz0 hz1 hz2 (oA.wider hsz) hbl.symm oC (by simp only[List.length_cons,List.length_nil];omega) (Nat.le_trans hsz ch.size);have bW:=ch.grown gr6 ch.size (fun k hk=>by cases hk;exact Nat.le_refl _)
       have f6:=fW.l bW;have r6:=rW.l bW;have b06:=aa bW0 bW;refine wpAnyH_ready (rs:=[7]) (by kernel_rfl) (by simp) ?_;refine AllReadyH.cons rfl (fun K hK=> ?_) AllReadyH.nil
       refine mg rfl (.tmp 121) (.tmp 126) 105 rfl _ _ v6 w6 rfl rfl hrun ?_;refine hK.out _ _ (f6.c 1 rfl) (fun hS7=> ?_)
       clear hK K;refine tq 8 (v6) rfl (fun w0 _=>by go_simp) hS7 ?_
       simp only[Act.put,List.getElem_toArray,List.getElem_cons_succ,List.getElem_cons_zero,List.setIfInBounds_toArray,List.set_cons_zero,List.set_cons_succ];refine wpAnyH_done (by kernel_rfl) ?_ _
       go_wp2_with fail
       go_meet
       exact⟨o6,r6,f6,b06⟩
      ·go_simp
       refine(HBE.out _ _ rB).mono ?_;rintro z wA ⟨gC,rfl,oB,bC⟩;have fA:=fB.l bC;have b0A:=aa b0B bC;have rA:=rF.l bC;refine hK.out _ _ (fA.c 1 rfl) (fun hS6=> ?_)
       clear hK K;refine wpAnyH_ready (rs:=[1]) (by kernel_rfl) (by simp) ?_;refine AllReadyH.cons rfl (fun K hK=> ?_) AllReadyH.nil
       go_simp
       have a1:=af wA (.cells #[.bool ng] 4);have oA:=GH wA ng;have fC:=fA.l a1;have b0C:=aa b0A a1;have rC:=rA.l a1;have oC:=oB.l a1;have hsz:=b0A.size;refine hK.out _ _ (fC.c 1 rfl) (fun hS1=> ?_)
       clear hK K;generalize wA.alloc (.cells #[.bool ng] 4)=wC at*;have ch:=a1;have fW:=fA;have rW:=rA;have bW0:=b0A;obtain⟨v6,w6,hrun,o6,gr6⟩:=vV 105 105 i0 underlying105 hi hz0 hz1 hz2 (oA.wider hsz) hbl.symm oC (by simp only[List.length_cons,List.length_nil];omega) (Nat.le_trans hsz ch.size);have bW:=ch.grown gr6 ch.size (fun k hk=>by cases hk;exact Nat.le_refl _)
       have f6:=fW.l bW;have r6:=rW.l bW;have b06:=aa bW0 bW;refine wpAnyH_ready (rs:=[7]) (by kernel_rfl) (by simp) ?_;refine AllReadyH.cons rfl (fun K hK=> ?_) AllReadyH.nil
       refine mg rfl (.tmp 121) (.tmp 126) 105 rfl _ _ v6 w6 rfl rfl hrun ?_;refine hK.out _ _ (f6.c 1 rfl) (fun hS7=> ?_)
       clear hK K;refine tq 8 (v6) rfl (fun w0 _=>by go_simp) hS7 ?_
       simp only[Act.put,List.getElem_toArray,List.getElem_cons_succ,List.getElem_cons_zero,List.setIfInBounds_toArray,List.set_cons_zero,List.set_cons_succ];refine wpAnyH_done (by kernel_rfl) ?_ _
       go_wp2_with fail
       go_meet
       exact⟨o6,r6,f6,b06⟩
    case rest=>
     obtain⟨o4,r4,f4,b4⟩:=hcut;have hbl:=wk E ex;have hfl:=wk F fr;have hol:(ng::bnL E ex).length=1+ex:=by simp[hbl];omega
     obtain⟨gb,cb,hs,hc1,hc2,hg,-⟩:=SW o4 (by omega);rw[hol] at hs hc1;subst hs;have x2:=f4.c 2 rfl;clear f3 b03 rs
     go_wp2_with fail
     refine(HBF.out _ _ r4).mono ?_;rintro z w5 ⟨g5,rfl,o5,b5⟩;have o45:=o4.l b5;have b05:=aa b4 b5;clear x2 r4 f4 o4;obtain⟨i0,hi,hz0,hz1,hz2⟩:=info_parts Tryz.infoB;obtain⟨v6,w6,hrun,o6,gr6⟩:=vV 105 105 i0 underlying105 hi hz0 hz1 hz2 o45 hfl.symm o5 (by rw[hol];omega) b05.size;have b06:yB w w6:=b05.grown gr6 b05.size (fun k hk=>(World.ownsRow.lt o45 k hk).1)
     have h6l:((ng::bnL E ex)++bnL F fr).length=nb:=by rw[List.length_append,hol,hfl,hnb]
     obtain⟨g6,c6,hs6,hc61,hc62,hg6,hcell⟩:=SW o6 (by omega);rw[h6l] at hs6 hc61 hcell;subst hs6;have HT:Hid _:=HPT.out g6 c6 w6 hcell;clear hcell o6 gr6 o45 o5 b5 b4 hbl hfl hol h6l HPT HBF HBE HFR
     go_wp2_with (at_builtin;refine kq (by rfl) _ _ 105 (by rfl) _ _ _ w6 (by rfl) (by rfl) hrun ?_)
     go_wp2_with fail
     refine Calls.mono HT.out ?_;rintro z w7 ⟨rfl,b7⟩
     go_wp2
     go_ret
     exact⟨rfl,aa b06 b7⟩
def byL (bf:Nat→Bool)(n:Nat):List Nat:=(List.range n).map fun i=>jY (fun j=>bf (8*i+j)) 8
theorem xT (bf:Nat→Bool)(n:Nat):(byL bf n).length=n:=by simp[byL]
theorem JB (bf:Nat→Bool)(n i:Nat)(h:i<n):(byL bf n).getD i 0=jY (fun j=>bf (8*i+j)) 8:=by
 simp[byL,List.getD_eq_getElem?_getD,h]
theorem xU {k i:Nat}(hk:1≤k∧k≤8)(hi:i<szN k):plN k (plN k i)=i:=by
 obtain⟨m,hm⟩:=(fZ hk).2.2.2.2.1;unfold plN
 by_cases h3:k=3
 ·rw[if_pos h3,if_pos h3]
  omega
 ·rw[if_neg h3,if_neg h3]
  by_cases h6:6≤k
  ·rw[if_pos h6,if_pos h6]
   omega
  ·rw[if_neg h6,if_neg h6]
def PlI (k:Nat)(bf:Nat→Bool)(i:Nat)(cur:List Nat):Prop:=
 cur.length=szN k∧ ∀j,j<i→cur.getD (plN k j) 0=jY (fun u=>bf (8*j+u)) 8
theorem WU {k i:Nat}(hk:1≤k∧k≤8){bf:Nat→Bool}{cur:List Nat}(h:PlI k bf i cur)(hi:i<szN k):PlI k bf (i+1) (cur.set (plN k i) (jY (fun u=>bf (8*i+u)) 8)):=by
 obtain⟨h1,h2⟩:=h;have hl:=Co hk hi;refine⟨by simpa using h1,fun j hj=> ?_⟩
 by_cases e:j=i
 ·subst e
  rw[Dg.getD_set _ _ _ _ (by omega),if_pos rfl]
 ·have hne:plN k i≠plN k j:=fun he=>by
   have h3:=xU hk hi;rw[he,xU hk (by omega)] at h3;exact e h3
  rw[Dg.getD_set _ _ _ _ (by omega),if_neg hne,h2 j (by omega)]
theorem aaJ {k:Nat}(hk:1≤k∧k≤8){bf:Nat→Bool}{cur:List Nat}(h:PlI k bf (szN k) cur):cur=jT k (byL bf (szN k)):=by
 obtain⟨h1,h2⟩:=h;apply List.ext_getElem (by rw[nM,xT];exact h1);intro p hp1 hp2;have hp:p<szN k:=by omega
 have e1:cur.getD p 0=cur[p]:=by simp[List.getD_eq_getElem?_getD,hp1]
 have e2:(jT k (byL bf (szN k))).getD p 0=(jT k (byL bf (szN k)))[p]:=by simp only[List.getD_eq_getElem?_getD,List.getElem?_eq_getElem hp2,Option.getD_some]
 rw[←e1,←e2,Kh k _ p (xT _ _) (by rw[xT];exact hp),JB _ _ _ (Co hk hp)];have:=h2 (plN k p) (Co hk hp);rw[xU hk hp] at this;exact this
theorem G8 (k:Nat)(hk:1≤k∧k≤8)(g off cap:Nat)(bf:Nat→Bool)(w:World)(hc: ∀i,i<8*szN k→w.cell? ⟨g,off+i,none⟩=some (.bool (bf i))):
  yC 91 #[yi k,.slice (some ⟨g,off,none⟩) (8*szN k) cap] w (yR w (.string (cF (jT k (byL bf (szN k)))))):=by
 obtain⟨i0,hi,hz0,hz1,hz2⟩:=info_parts Tryz.infoU8;have hsz:=(fZ hk).2.2.1;have hsz1:1≤szN k:=by rcases bO hk with rfl|rfl|rfl|rfl|rfl|rfl|rfl|rfl<;>decide
 have HP:Hid (∀(i:Nat) w1,i<szN k→yC 105 #[yi k,yi i] w1 (yR w1 (yi ((plN k i:Nat):Int)))):=fun i w1 h=>IF k hk i h w1
 have HCC:Hid _:=hc;have HE:Hid (∀cur,PlI k bf (szN k) cur→cur=jT k (byL bf (szN k))):=fun cur h=>aaJ hk h
 have HS:Hid (∀i cur,PlI k bf i cur→i<szN k→PlI k bf (i+1) (cur.set (plN k i) (jY (fun u=>bf (8*i+u)) 8))∧plN k i<szN k):=fun i cur h h'=>⟨WU hk h h',Co hk h'⟩
 obtain⟨sz,esz⟩: ∃x,szN k=x:=⟨_,rfl⟩;have HL:Hid (∀i cur,PlI k bf i cur→cur.length=sz):=fun i cur h=>by rw[←esz];exact h.1
 have hst0:PlI k bf 0 (List.replicate sz 0):=⟨by simp[esz],fun j hj=>absurd hj (Nat.not_lt_zero _)⟩
 rw[esz] at hsz hsz1 HP HCC HE HS⊢;obtain⟨nb,enb⟩: ∃x,8*sz=x:=⟨_,rfl⟩;have hq:(nb:Int)/8=(sz:Int):=by omega
 have hnb:nb≤80:=by omega
 have HNB:Hid (8*sz=nb):=enb;rw[enb] at HCC⊢;obtain⟨st,est⟩: ∃x,cF (jT k (byL bf sz))=x:=⟨_,rfl⟩;have HST:Hid (cF (jT k (byL bf sz))=st):=est;rw[est];clear hc esz enb est hk
 go_enter func91,ntmps91
 go_wp2_with (at_make;refine wpList_make_full _ rfl _ _ 205 rfl w.heap.size 5 i0 (.int .u8 0) 1 underlying205 hi hz0 hz1 _ _ _ _ sz rfl rfl (by omega) (by omega) ?b2 ?b3 (Nat.le_refl _) ?_)
 case b2=>rw[hz2];omega
 case b3=>unfold maxLen;omega
 intro w0 hown hgrow;have r0:=Ev (gL hown);have b0:yB w w0:=(Below.refl _ _).grown hgrow (Nat.le_refl _) (fun k h=>by cases h)
 clear hown hgrow
 go_wp2
 go_loopw [6] (fun iv wr=> ∃(i:Nat) (cur:List Nat),i≤sz∧iv=yi i∧ik wr w.heap.size cur∧PlI k bf i cur∧yB w wr) (fun iv _=>sz-(intOf iv).toNat)
 case atStart=>exact⟨0,List.replicate sz 0,by omega,rfl,r0,hst0,b0⟩
 case round=>
  obtain⟨i,cur,hi1,rfl,row,hI,bel⟩:=hrel
  by_cases hlt:i<sz
  ·go_wp2
   go_loop [7,8] (fun cv jv=> ∃j c:Nat,j≤8∧Hid (c=jY (fun u=>bf (8*i+u)) j∧c<2^j)∧c<256∧cv=yi (c:Int)∧jv=yi (j:Int)) (fun _ jv=>8-(intOf jv).toNat)
   case atStart=>exact⟨0,0,by omega,⟨rfl,by simp⟩,by omega,rfl,rfl⟩
   case round=>
    obtain⟨j,c,hj,HX,hc256,rfl,rfl⟩:=hrel
    by_cases hj8:j<8
    ·have hce:=cell_later bel (HCC.out (8*i+j) (by have:=HNB.out;omega))
     have hx:=HX.out.1;have hxl:=HX.out.2;have hsv:jY (fun u=>bf (8*i+u)) (j+1)=c*2+if bf (8*i+j) then 1 else 0:=by rw[jY,←hx]
     obtain⟨bb,ebb⟩: ∃x,bf (8*i+j)=x:=⟨_,rfl⟩;rw[ebb] at hce hsv;obtain⟨p,ep⟩: ∃x,8*i+j=x:=⟨_,rfl⟩;rw[ep] at hce;have hpI:(8:Int)*(i:Int)+(j:Int)=(p:Int):=by omega
     have hpl:p<nb:=by have:=HNB.out;omega
     have hl2:(2:Nat)^ (j+1)≤2^8:=Nat.pow_le_pow_right (by omega) (by omega);have hvl:=DZ (fun u=>bf (8*i+u)) (j+1)
     have HH:Hid (_∧_):=⟨hsv,hvl⟩;clear hx ebb ep hsv HX
     cases bb
     all_goals go_wp2
     all_goals (obtain⟨hsv,hvl⟩:=HH.out;simp only[Bool.false_eq_true,if_false,if_true] at hsv;refine⟨⟨j+1,jY (fun u=>bf (8*i+u)) (j+1),by omega,⟨rfl,hvl⟩,by omega,by rw[hsv];congr 1;omega,rfl⟩,by simp only[intOf];omega⟩)
    ·obtain⟨hx,hxl⟩:=HX.out
     have hj':j=8:=by omega
     rw[hj'] at hx;obtain⟨hst,hpl⟩:=HS.out i cur hI hlt;have hp:=fun w1=>HP.out i w1 hlt
     obtain⟨pp,ep⟩: ∃x,plN k i=x:=⟨_,rfl⟩;rw[ep] at hst hpl hp;rw[←hx] at hst;have HPP:Hid _:=hp;have hcl:=HL.out i cur hI;have hjI: ¬((j:Int)<8):=by omega
     have hwc:IntKind.u8.wrap (c:Int)=(c:Int):=by rw[IntKind.wrap_u8'];omega
     clear hp hx hj' ep HX hI
     go_wp2_with fail
     refine(HPP.out _).mono ?_;rintro z w2 ⟨rfl,b2⟩;have row2:=row.l b2;have bel2:=aa bel b2;have hf:=row2.f pp (by omega);have hce:=row2.c pp (by omega);have row3:=row2.store pp c;have bel3:=(ag w2 w.heap.size pp (.int .u8 (c:Int))).below bel2 (Nat.le_refl _);have HR:Hid (_∧_∧_):=⟨row3,bel3,hst⟩;clear row3 bel3 hst row row2 bel bel2 b2
     go_wp2
     go_roundw
     case rel=>
      obtain⟨row3,bel3,hst⟩:=HR.out;exact⟨i+1,_,by omega,by go_num,row3,hst,bel3⟩
     case measure=>simp[intOf];omega
  ·have HI:Hid (i=sz):=(by omega:i=sz)
   have hcl:=HL.out i cur hI;have hcv:=vi (cap:=sz) 205 9 underlying205 underlying5 underlying9 row;have he:cur=jT k (byL bf sz):=HE.out cur (by have:=HI.out;rw[←this] at*;exact hI);rw[hcl,he,HST.out] at hcv;clear he
   go_wp2
   go_ret
   exact⟨rfl,bel⟩
end Go.Proofs.YtpgijbdgljkeeaaGreatDoor

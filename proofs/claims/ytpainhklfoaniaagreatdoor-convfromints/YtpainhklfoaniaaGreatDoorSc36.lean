/-
  Texts laid together: Ce2.
-/
import Derived.Test.YtpainhklfoaniaaGreatDoorSc27
import Derived.Test.YtpainhklfoaniaaGreatDoorSc35
set_option maxRecDepth 100000
set_option maxHeartbeats 3200000
namespace Go.Proofs.YtpainhklfoaniaaGreatDoor
open _root_.Go.Proofs.Tryz
open Go.RowKit
def bnL (a many:Nat):List Bool:=(List.range many).map fun i=>decide (a/2^ (many-1-i) % 2=1)
theorem wk (a many:Nat):(bnL a many).length=many:=by simp[bnL]
theorem jp.store {w:World}{base g n cap:Nat}{bs:List Bool}(h:jp w base (.slice (some ⟨g,0,none⟩) n cap) bs)(hn:n=bs.length)(j:Nat)(x:Bool):
  jp (w.setCell ⟨g,j,none⟩ (.bool x)) base (.slice (some ⟨g,0,none⟩) n cap) (bs.set j x):=by
 subst hn;have:=(World.ownsRow.stored h j (.bool x)).1;unfold jp;rw[List.length_set,List.map_set];exact this
theorem jp.f {w:World}{base g n cap:Nat}{bs:List Bool}(h:jp w base (.slice (some ⟨g,0,none⟩) n cap) bs)(hn:n=bs.length)(j:Nat):w.frozen? ⟨g,j,none⟩=false:=by
 subst hn;exact World.ownsRow.frozenAt h j
theorem jp.block {w:World}{base g n cap:Nat}{bs:List Bool}(h:jp w base (.slice (some ⟨g,0,none⟩) n cap) bs)(hn:n=bs.length):base≤g∧g<w.heap.size:=by
 subst hn;exact World.ownsRow.lt h g rfl
theorem jp.c {w:World}{base g n cap:Nat}{bs:List Bool}(h:jp w base (.slice (some ⟨g,0,none⟩) n cap) bs)(hn:n=bs.length)(j:Nat)(hj:j<bs.length):w.cell? ⟨g,j,none⟩=some (.bool (bs.getD j false)):=by
 subst hn;have hc:=World.ownsRow.cellAt h j (by omega);rw[hc,List.getElem?_map,List.getElem?_eq_getElem hj];simp[List.getD_eq_getElem?_getD,hj]
theorem ach {w:World}{base g n:Nat}{bs:List Bool}(h:jp w base (.slice (some ⟨g,0,none⟩) n n) bs)(hn:n=bs.length){k:IntKind}{v:Value}{zs:List Nat}(hr:Rd w k v zs):wF g v zs:=fun hp a m c hv=>by
 subst hn;obtain⟨ao,cap,rfl,_,_,h3⟩:=hr;obtain⟨b,off,rfl,hc⟩:=h3 hp
 cases hv
 show b≠g
 intro e;subst e;have h0:=hc 0 hp
 rcases h.2 with⟨hv,_⟩| ⟨g',cap',cur,hv,hb,hh,hnc,hcm,hcs,htake⟩
 ·simp at hv
 ·simp only[Value.slice.injEq,Option.some.injEq,Addr.mk.injEq,and_true,true_and] at hv
  obtain⟨rfl,rfl⟩:=hv;have hcur:cur.toList=bs.map Value.bool:=by
   rw[←htake,List.take_of_length_le (by rw[Array.length_toList,hcs];omega)]
  unfold World.cell? at h0;simp only[hh] at h0;rw[←Array.getElem?_toList,hcur,List.getElem?_map] at h0
  cases hx:bs[off+0]? with
  |none=>rw[hx] at h0;simp at h0
  |some y=>rw[hx] at h0;simp at h0
def BnI (a many j:Nat)(cur:List Bool):Prop:=
 cur.length=many∧ ∀i,i<many→cur.getD i false=if many-j≤i then decide (a/2^ (many-1-i) % 2=1) else false
theorem ZS {a many j:Nat}{cur:List Bool}(h:BnI a many j cur)(hj:j<many):BnI a many (j+1) (cur.set (many-1-j) (decide (a/2^j % 2=1))):=by
 obtain⟨h1,h2⟩:=h;refine⟨by simpa using h1,fun i hi=> ?_⟩
 by_cases e:many-1-j=i
 ·rw[e,List.getD_eq_getElem?_getD,List.getElem?_set_self (by omega),if_pos (by omega),show many-1-i=j from by omega]
  rfl
 ·rw[List.getD_eq_getElem?_getD,List.getElem?_set_ne e,←List.getD_eq_getElem?_getD,h2 i hi]
  by_cases c:many-j≤i
  ·rw[if_pos c,if_pos (by omega)]
  ·rw[if_neg c,if_neg (by omega)]
theorem aci {a many:Nat}{cur:List Bool}(h:BnI a many many cur):cur=bnL a many:=by
 obtain⟨h1,h2⟩:=h;apply List.ext_getElem (by rw[wk];exact h1);intro i hi1 hi2;have:=h2 i (by omega);rw[if_pos (by omega),List.getD_eq_getElem?_getD,List.getElem?_eq_getElem hi1] at this;simp only[Option.getD_some] at this;rw[this];simp[bnL]
theorem Do (va:Value)(a many:Nat)(w:World)(ha:Rd w .i64 va (Dg.dg 65536 a))(hal:a<340282366920938463463374607431768211456)(hm:many≤100)(hm1:1≤many):
  yC 80 #[va,yi many] w fun z w'=> ∃g,z= .returned (.slice (some ⟨g,0,none⟩) many many)∧jp w' w.heap.size (.slice (some ⟨g,0,none⟩) many many) (bnL a many)∧yB w w':=by
 obtain⟨i0,hi,hz0,hz1,hz2⟩:=info_parts Tryz.infoB;obtain⟨ao,ca,rfl⟩:=ha.shape;have HI:Hid (∀(v u:Value) (x:Nat) w1,x<340282366920938463463374607431768211456→Rd w1 .i64 v (Dg.dg 65536 x)→Rd w1 .i64 u [2]→yC 88 #[v,u] w1 (JI w1 (x/2) (x % 2))):=fun v u x w1 hx h1 h2=>by
  have h2':Rd w1 .i64 u (Dg.dg 65536 2):=by
   rw[show Dg.dg 65536 2=[2] from by
    have:=Dg.dg_vl 65536 (by omega) [2] (fun i=>by
     match i with
     |0=>decide
     |i+1=>simp) (fun _=>by simp)
    simpa[Dg.vl] using this]
   exact h2
  have hl:=Dg.dg_len_le 65536 x 8 (by omega) hx;have hl2:=Dg.dg_len_le 65536 2 1 (by omega) (by omega);exact qM v u x 2 w1 h1 h2' (by omega) (by omega) (by omega)
 go_enter func80,ntmps80
 go_wp2_with (at_make;refine wpList_make_full _ rfl _ _ 96 rfl w.heap.size 4 i0 (.bool false) 1 underlying96 hi hz0 hz1 _ _ _ _ many rfl rfl (by omega) (by omega) ?b2 ?b3 (Nat.le_refl _) ?_)
 case b2=>rw[hz2];omega
 case b3=>unfold maxLen;omega
 intro w0 hown hgrow;have own0:jp w0 w.heap.size (.slice (some ⟨w.heap.size,0,none⟩) many many) (List.replicate many false):=by
  rw[toList_madeCells_one] at hown
  simpa[jp] using hown
 have b0:yB w w0:=(Below.refl _ _).grown hgrow (Nat.le_refl _) (fun k h=>by cases h)
 have r0:=ha.l b0;clear hown hgrow
 go_wp2
 go_loopw [0,6] (fun av iv wr=> ∃(j x:Nat) (cur:List Bool),j≤many∧iv=yi ((many:Int)-1-j)∧Rd wr .i64 av (Dg.dg 65536 x)∧Hid (x=a/2^j)∧jp wr w.heap.size (.slice (some ⟨w.heap.size,0,none⟩) many many) cur∧BnI a many j cur∧yB w wr) (fun _ iv _=>(intOf iv+1).toNat)
 case atStart=>exact⟨0,a,List.replicate many false,by omega,by go_num,r0,by show a=a/2^0;simp,own0,⟨by simp,fun i hi=>by rw[if_neg (by omega)];simp[List.getD_eq_getElem?_getD,hi]⟩,b0⟩
 case round=>
  obtain⟨j,x,cur,hj,rfl,rx,HX,own,hI,bel⟩:=hrel;have hcl:=hI.1
  by_cases hlt:j<many
  ·obtain⟨i,ei⟩: ∃i,many-1-j=i:=⟨_,rfl⟩
   have hiI:(many:Int)-1-(j:Int)=(i:Int):=by omega
   have hst:=ZS hI hlt;rw[ei] at hst;rw[hiI];have hxe:=HX.out;have hxl:x<340282366920938463463374607431768211456:=by rw[hxe];exact Nat.lt_of_le_of_lt (Nat.div_le_self _ _) hal
   rw[←hxe] at hst;have hx2:x/2=a/2^ (j+1):=by rw[hxe,Nat.div_div_eq_div_mul,Nat.pow_succ]
   have a1:=af wr (.cells #[yi 2] 3);have r2:Rd (wr.alloc (.cells #[yi 2] 3)) .i64 (.slice (some ⟨wr.heap.size,0,none⟩) 1 1) [2]:=cE (w:=wr) (k:= .i64) (e:=3) [2] #[yi 2] rfl (by unfold maxLen;simp);obtain⟨xo,xc,hvx⟩:=rx.shape;subst hvx;have HT:Hid (yC 88 #[yS xo x xc,.slice (some ⟨wr.heap.size,0,none⟩) 1 1] (wr.alloc (.cells #[yi 2] 3)) (JI (wr.alloc (.cells #[yi 2] 3)) (x/2) (x % 2))):=HI.out _ _ x _ hxl (rx.l a1) r2;have HH:Hid (_∧_∧_):=⟨hst,hx2,hiI⟩;have own1:=own.l a1;have bel1:=aa bel a1;have hil:i<many:=by omega
   clear hst hx2 hiI hxe HX ei hI own bel
   go_wp2_with fail
   refine Calls.mono HT.out ?_;rintro z w2 ⟨vq,vr,rfl,rq,rr,b2⟩;obtain⟨qo,qc,hq⟩:=rq.shape;subst hq;obtain⟨ro,rc,hr⟩:=rr.shape;subst hr;have own2:=own1.l b2;have bel2:=aa bel1 b2;have hc2:=own2.c (by omega) i (by omega);have hf2:=own2.f (by omega) i;have hbb:decide (0< (Dg.dg 65536 (x % 2)).length)=decide (x % 2=1):=by
    rcases(show x % 2=0∨x % 2=1 by omega) with h|h
    ·rw[h];rfl
    ·rw[h]
     have:Dg.dg 65536 1≠[]:=by rw[Ne,Dg.dg_nil_iff 65536 1 (by omega)];omega
     have hp:=List.length_pos_iff.2 this;rw[decide_eq_true (by omega)];rfl
   obtain⟨bb,ebb⟩: ∃y,decide (x % 2=1)=y:=⟨_,rfl⟩;rw[ebb] at hbb HH;have bu:=ag w2 w.heap.size i (.bool bb);have rq3:=bu.rd rq (ach own2 (by omega) rq);have own3:=own2.store (by omega) i bb;have bel3:=bu.below bel2 (Nat.le_refl _);have HR:Hid (_∧_∧_∧_):=⟨rq3,own3,bel3,hbb⟩;clear hbb ebb rr bu rq3 own3 bel3 rq own1 bel1 own2 bel2 b2 a1 r2 HT rx
   go_wp2
   go_roundw
   case rel=>
    obtain⟨hst,hx2,hiI⟩:=HH.out;obtain⟨rq3,own3,bel3,hbb⟩:=HR.out;rw[hbb];exact⟨j+1,x/2,_,by omega,by congr 1;omega,rq3,hx2,own3,hst,bel3⟩
   case measure=>simp only[intOf];omega
  ·have hd: ¬((0:Int)≤(many:Int)-1-(j:Int)):=by omega
   have HJ:Hid (j=many):=(by omega:j=many)
   go_wp2
   go_ret
   have h1:=HJ.out;subst h1;rw[aci hI] at own;exact⟨_,rfl,own,bel⟩
end Go.Proofs.YtpainhklfoaniaaGreatDoor

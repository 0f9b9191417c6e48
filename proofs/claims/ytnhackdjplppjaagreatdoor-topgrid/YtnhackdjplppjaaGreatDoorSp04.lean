/-
  Texts laid together: Dy2, Lk, Lk2, Co1, Co2, Co3, Co9.
-/
import Derived.Deep.RegionHeld3
import Derived.Deep.MidRow
import Derived.Deep.Cut
import Derived.Test.YtnhackdjplppjaaGreatDoorSp03
set_option maxRecDepth 100000
namespace Go.Proofs.YtnhackdjplppjaaGreatDoor
open Go.RowKit
def Dv (w:World) (v:Value) (t:Trip):Prop:= ∃s,v=(ydV t.s s t.e)∧Rd w .u32 s (Dg.dg 4294967296 t.n)
def DRes (w:World) (t:Trip) (e:Ending) (w':World):Prop:= ∃s,e= .returned (ydV t.s s t.e)∧Own w' w.heap.size 141 .u32 s (Dg.dg 4294967296 t.n)∧Below w.heap.size w w'
theorem Dv.later {w w':World} {v:Value} {t:Trip} (h:Dv w v t) (hb:Below w.heap.size w w'):Dv w' v t:=by
 obtain⟨s,hv,hr⟩:=h;exact⟨s,hv,hr.later hb⟩
def Loc (w:World) (b:Nat) (v0 v1 v2:Value):Prop:=
 b<w.heap.size∧(w.cell? ⟨b,0,none⟩=some v0∧w.cell? ⟨b,1,none⟩=some v1∧w.cell? ⟨b,2,none⟩=some v2)∧w.frozen? ⟨b,0,none⟩=false∧w.frozen? ⟨b,1,none⟩=false∧w.frozen? ⟨b,2,none⟩=false
theorem Loc.later {w w':World} {b:Nat} {v0 v1 v2:Value} (h:Loc w b v0 v1 v2) (hb:Below w.heap.size w w'):Loc w' b v0 v1 v2:=by
 obtain⟨hl,⟨c0,c1,c2⟩,f0,f1,f2⟩:=h;have hk:=hb.block b hl;refine⟨Nat.lt_of_lt_of_le hl hb.size,⟨cell_later hb c0,cell_later hb c1,cell_later hb c2⟩, ?_, ?_, ?_⟩
 ·rw[World.frozen?_of_block (w:=w) (a:=⟨b,0,none⟩) hk];exact f0
 ·rw[World.frozen?_of_block (w:=w) (a:=⟨b,1,none⟩) hk];exact f1
 ·rw[World.frozen?_of_block (w:=w) (a:=⟨b,2,none⟩) hk];exact f2
theorem loc_new (w:World) (v0 v1 v2:Value) (ty:TypeId):Loc (w.alloc (.cells #[v0,v1,v2] ty)) w.heap.size v0 v1 v2:=by
 refine⟨by simp[World.size_alloc],⟨?_, ?_, ?_⟩, ?_, ?_, ?_⟩
 ·rw[World.cell?_alloc_at _ _ _ _ rfl];rfl
 ·rw[World.cell?_alloc_at _ _ _ _ rfl];rfl
 ·rw[World.cell?_alloc_at _ _ _ _ rfl];rfl
 ·exact World.frozen?_alloc_at _ _ _ _ rfl
 ·exact World.frozen?_alloc_at _ _ _ _ rfl
 ·exact World.frozen?_alloc_at _ _ _ _ rfl
theorem loc_set {w:World} {b:Nat} {v0 v1 v2:Value} (h:Loc w b v0 v1 v2) (x0 x1 x2:Value):
  Loc (((w.setCell ⟨b,0,none⟩ x0).setCell ⟨b,1,none⟩ x1).setCell ⟨b,2,none⟩ x2) b x0 x1 x2:=by
 obtain⟨hl,⟨c0,c1,c2⟩,f0,f1,f2⟩:=h;refine⟨by simpa using hl,⟨?_, ?_, ?_⟩, ?_, ?_, ?_⟩
 ·rw[World.cell?_setCell_other (h:=by simp),World.cell?_setCell_other (h:=by simp)]
  exact World.cell?_setCell_same _ _ _ c0
 ·have k1:(w.setCell ⟨b,0,none⟩ x0).cell? ⟨b,1,none⟩=some v1:=by rw[World.cell?_setCell_other (h:=by simp)];exact c1
  rw[World.cell?_setCell_other (h:=by simp)];exact World.cell?_setCell_same _ _ _ k1
 ·have k2:((w.setCell ⟨b,0,none⟩ x0).setCell ⟨b,1,none⟩ x1).cell? ⟨b,2,none⟩=some v2:=by rw[World.cell?_setCell_other (h:=by simp),World.cell?_setCell_other (h:=by simp)];exact c2
  exact World.cell?_setCell_same _ _ _ k2
 ·simpa using f0
 ·simpa using f1
 ·simpa using f2
theorem Own.apart {w w':World} {base e b:Nat} {k:IntKind} {v:Value} {zs:List Nat} (h:Own w base e k v zs) (hg:w.grownBy w' (some b)) (hb:b<base):Own w' base e k v zs:=by
 obtain⟨hl,h2⟩:=h;refine⟨hl, ?_⟩
 rcases h2 with h2| ⟨g',cap',cur,hv,hbg,hh,r⟩
 ·exact .inl h2
 ·refine .inr ⟨g',cap',cur,hv,hbg, ?_,r⟩
  have hlt:g'<w.heap.size:=by
   rw[Array.getElem?_eq_some_iff] at hh;exact hh.1
  rw[hg.block g' hlt (by intro e;cases e;omega)]
  exact hh
theorem Own.apart3 {w:World} {base e b:Nat} {k:IntKind} {v:Value} {zs:List Nat} (h:Own w base e k v zs) (hb:b<base) (x0 x1 x2:Value):
  Own (((w.setCell ⟨b,0,none⟩ x0).setCell ⟨b,1,none⟩ x1).setCell ⟨b,2,none⟩ x2) base e k v zs:=
 ((h.apart (grown_set w b 0 x0) hb).apart (grown_set _ b 1 x1) hb).apart (grown_set _ b 2 x2) hb
theorem rd_nil (w:World) (k:IntKind):Rd w k (.slice none 0 0) []:=(own_nil w 0 0 k).rd
theorem below_alloc (w:World) (o:Obj):Below w.heap.size w (w.alloc o):=(Below.refl _ _).alloc (Nat.le_refl _) _
theorem digits_any (b:Bool) (ao:Option Addr) (n ca:Nat) (e:Int) (w:World):Calls Tryz.prog 172 #[ydV b (.slice ao n ca) e] w fun x w'=>x= .returned (.slice ao n ca)∧Below w.heap.size w w':=by
 have b1:Below w.heap.size w (w.alloc (.cells (ydL b (.slice ao n ca) e).toArray 96)):=(Below.refl _ _).alloc (Nat.le_refl _) _
 go_enter Tryz.func172,Tryz.ntmps172
 go_wp2
 go_ret
 exact⟨rfl,b1⟩
theorem new_any (b:Bool) (ao:Option Addr) (n ca:Nat) (e:Int) (w:World):Calls Tryz.prog 159 (ydL b (.slice ao n ca) e).toArray w fun x w'=>x= .returned (ydV b (.slice ao n ca) e)∧Below w.heap.size w w':=by
 go_enter Tryz.func159,Tryz.ntmps159
 go_wp2
 go_returns
 exact⟨rfl,(Below.refl _ _).alloc (Nat.le_refl _) _⟩
theorem of_dy (b:Bool) (ao:Option Addr) (n ca:Nat) (e:Int) (w:World):Calls Tryz.prog 138 #[ydV b (.slice ao n ca) e] w fun x w'=>x= .returned (ydV b (.slice ao n ca) e)∧Below w.heap.size w w':=by
 go_enter Tryz.func138,Tryz.ntmps138
 go_wp2
 go_returns
 exact⟨rfl,((Below.refl _ _).alloc (Nat.le_refl _) _).alloc (by simp[World.size_alloc]) _⟩
set_option maxHeartbeats 800000 in
theorem dbare_any (v:Value) (t:Trip) (w:World) (hv:Dv w v t) (hL:(Dg.dg 4294967296 t.n).length≤500000) (he: -1000000≤t.e∧t.e≤1000000) (hT:Tab w) (htz:tz t.n≤1000000):
  Calls Tryz.prog 161 #[v] w (DRes w (bare t)):=by
 obtain⟨s,rfl,hr⟩:=hv;obtain⟨ts,n,e⟩:=t;simp only at hr hL he htz⊢;obtain⟨ao,ca,rfl⟩:=hr.shape;obtain⟨e1,e2⟩:=he
 by_cases hn:n=0
 ·subst hn
  rw[show Dg.dg 4294967296 0=[] from rfl] at hr⊢
  go_enter Tryz.func161,Tryz.ntmps161
  rw[show bare ⟨ts,0,e⟩=⟨false,0,0⟩ from by unfold bare;rfl]
  go_wp2
  go_returns
  exact⟨_,rfl,own_nil _ _ _ _,((Below.refl _ _).alloc (Nat.le_refl _) _).alloc (by simp[World.size_alloc]) _⟩
 ·have h0:(((Dg.dg 4294967296 n).length:Int)==0)=false:=by simp[Dg.dg_nil_iff 4294967296 n (by omega)];exact hn
  have HB:Hid (bare ⟨ts,n,e⟩=⟨ts,n/2^tz n,e+tz n⟩):=by show bare ⟨ts,n,e⟩=_;unfold bare;rw[if_neg hn]
  have hsm:=Dg.small_dg 4294967296 n (by omega);have hvl:=Dg.vl_dg 4294967296 n (by omega);have HTW:Hid (∀w1,Below w.heap.size w w1→Calls Tryz.prog 208 #[.slice ao (Dg.dg 4294967296 n).length ca] w1 fun e w'=>e= .returned (yi ((tz n:Nat):Int))∧w'=w1):=fun w1 b1=>by
   have:=twos_any _ n w1 (hr.later b1) (by omega) (hT.later b1)
   rwa [if_neg hn] at this
  have HSH:Hid (∀w1,Below w.heap.size w w1→Calls Tryz.prog 177 #[.slice ao (Dg.dg 4294967296 n).length ca,yi (-((tz n:Nat):Int))] w1 (Num w1 (n/2^tz n))):=fun w1 b1=>by
   have:=shifted_any _ _ (-((tz n:Nat):Int)) w1 (hr.later b1) hsm (by omega) (by omega) (by omega);rw[hvl] at this;have e:shN n (-((tz n:Nat):Int))=n/2^tz n:=by
    unfold shN
    by_cases hz: -((tz n:Nat):Int)<0
    ·rw[if_pos hz];congr 2;omega
    ·rw[if_neg hz]
     have h0:tz n=0:=by omega
     rw[h0];simp
   rwa [e] at this
  obtain⟨m,hm⟩: ∃m,(Dg.dg 4294967296 n).length=m:=⟨_,rfl⟩;obtain⟨k,hk⟩: ∃k,tz n=k:=⟨_,rfl⟩;obtain⟨q,hq⟩: ∃q,n/2^tz n=q:=⟨_,rfl⟩;rw[hq,hk] at HB;rw[hq,hk,hm] at HSH;rw[hk,hm] at HTW;rw[hm] at h0 hL⊢;rw[hk] at htz;rw[HB.out];clear hm hk hq hr hsm hvl HB hn hT;have l1:=(loc_new w (.bool ts) (.slice ao m ca) (yi e) 96).later (below_alloc _ (.cells (ydL false (.slice none 0 0) 0).toArray 96));have l2:=loc_new (w.alloc (.cells (ydL ts (.slice ao m ca) e).toArray 96)) (.bool false) (.slice none 0 0) (yi 0) 96;have bA:=below_trans (below_alloc w (.cells (ydL ts (.slice ao m ca) e).toArray 96)) (below_alloc _ (.cells (ydL false (.slice none 0 0) 0).toArray 96));rw[World.size_alloc] at l2
  go_enter Tryz.func161,Tryz.ntmps161
  go_wp2_with fail
  refine(digits_any ts ao m ca e _).mono ?_;rintro x w1 ⟨rfl,b1⟩;have l1:=l1.later b1;have l2:=l2.later b1;have b01:=below_trans bA b1;clear bA b1
  go_wp2_with fail
  refine(HTW.out w1 b01).mono ?_;rintro x w2 ⟨rfl,rfl⟩;have bd:Below w2.heap.size w2 w2.drew:=(Below.refl _ _).drew;have l1:=l1.later bd;have l2:=l2.later bd;have b02:=below_trans b01 bd;obtain⟨-,⟨c0,c1,c2⟩,-⟩:=id l1;clear b01 bd;have e3:IntKind.i64.wrap (-(k:Int))= -(k:Int):=IntWalk.i64_in _ ⟨by omega,by omega⟩;have e4:IntKind.i64.wrap (e+(k:Int))=e+(k:Int):=IntWalk.i64_in _ ⟨by omega,by omega⟩
  go_wp2_with fail
  go_region_held3 (fun wq=>wq.cell? ⟨w.heap.size,0,none⟩=some (.bool ts)∧wq.cell? ⟨w.heap.size,1,none⟩=some (.slice ao m ca)∧wq.cell? ⟨w.heap.size,2,none⟩=some (yi e)) (go_keep) (first
   | (go_at_call 172;refine(digits_any ts ao m ca e _).mono ?_;rintro x w3 ⟨rfl,b3⟩;have l13:=l1.later b3;have l23:=l2.later b3;have b03:=below_trans b02 b3;obtain⟨-,⟨p0,p1,p2⟩,-⟩:=id l13)
   | (go_at_call 177;refine(HSH.out _ b03).mono ?_;rintro x w4 ⟨vs,rfl,own4,b4⟩;have l14:=l13.later b4;have l24:=l23.later b4;have b04:=below_trans b03 b4;obtain⟨so,sc,hvs⟩:=own4.rd.shape;subst hvs;obtain⟨-,⟨q0,q1,q2⟩,-⟩:=id l14)
   | (go_at_call 159;refine(new_any ts so _ sc _ _).mono ?_;rintro x w5 ⟨rfl,b5⟩;have l25:=l24.later b5;have l15:=l14.later b5;obtain⟨-,⟨r0,r1,r2⟩,-⟩:=id l15;have b05:=below_trans b04 b5;have rd5:=own4.rd.later b5;obtain⟨hl5,⟨d0,d1,d2⟩,f0,f1,f2⟩:=id l25))
  all_goals go_wp2
  have l5:=loc_set l25 (.bool ts) (.slice so (Dg.dg 4294967296 q).length sc) (yi (e+(k:Int)));have hbw:w.heap.size≤w.heap.size+1:=by omega
  have b5':=((b05.setCell (p:=⟨w.heap.size+1,0,none⟩) hbw (.bool ts)).setCell (p:=⟨w.heap.size+1,1,none⟩) hbw (.slice so (Dg.dg 4294967296 q).length sc)).setCell (p:=⟨w.heap.size+1,2,none⟩) hbw (yi (e+(k:Int)));have own5:=(own4.later b5).apart3 (b:=w.heap.size+1) l23.1 (.bool ts) (.slice so (Dg.dg 4294967296 q).length sc) (yi (e+(k:Int)));obtain⟨-,⟨g0,g1,g2⟩,-⟩:=l5;refine bodyPost_ret (v:=(ydV ts (.slice so (Dg.dg 4294967296 q).length sc) (e+(k:Int)))) (by simp[results,Tryz.results161,go_sem,g0,g1,g2]) rfl ?_;exact⟨_,rfl,own5.lower b03.size,b5'⟩
end Go.Proofs.YtnhackdjplppjaaGreatDoor
namespace Go.Proofs.YtnhackdjplppjaaGreatDoor
open Go.RowKit
def LocE (w:World) (b:Nat) (ty:TypeId) (vs:List Value):Prop:=w.heap[b]? =some (.cells vs.toArray ty (0,0))
theorem LocE.lt {w:World} {b:Nat} {ty:TypeId} {vs:List Value} (h:LocE w b ty vs):b<w.heap.size:=(Array.getElem?_eq_some_iff.1 h).1
theorem LocE.later {w w':World} {b:Nat} {ty:TypeId} {vs:List Value} (h:LocE w b ty vs) (hb:Below w.heap.size w w'):LocE w' b ty vs:=(hb.block b h.lt).trans h
theorem LocE.drew {w:World} {b:Nat} {ty:TypeId} {vs:List Value} (h:LocE w b ty vs):LocE w.drew b ty vs:=h.later (Below.refl _ _).drew
theorem locE_new (w:World) (vs:List Value) (ty:TypeId):LocE (w.alloc (.cells vs.toArray ty)) w.heap.size ty vs:=heap_alloc_new _ _
theorem LocE.cell {w:World} {b:Nat} {ty:TypeId} {vs:List Value} (h:LocE w b ty vs) (i:Nat) {v:Value} (hv:vs[i]? =some v):w.cell? ⟨b,i,none⟩=some v:=by
 unfold World.cell?;simp only;rw[h]
 simpa using hv
theorem LocE.cs2 {w:World} {b:Nat} {ty:TypeId} {x0 x1:Value} {l:List Value} (h:LocE w b ty (x0::x1::l)):w.cell? ⟨b,0,none⟩=some x0∧w.cell? ⟨b,1,none⟩=some x1:=⟨h.cell 0 rfl,h.cell 1 rfl⟩
theorem LocE.cs3 {w:World} {b:Nat} {ty:TypeId} {x0 x1 x2:Value} {l:List Value} (h:LocE w b ty (x0::x1::x2::l)):w.cell? ⟨b,0,none⟩=some x0∧w.cell? ⟨b,1,none⟩=some x1∧w.cell? ⟨b,2,none⟩=some x2:=⟨h.cell 0 rfl,h.cell 1 rfl,h.cell 2 rfl⟩
theorem LocE.cs4 {w:World} {b:Nat} {ty:TypeId} {x0 x1 x2 x3:Value} {l:List Value} (h:LocE w b ty (x0::x1::x2::x3::l)):w.cell? ⟨b,0,none⟩=some x0∧w.cell? ⟨b,1,none⟩=some x1∧w.cell? ⟨b,2,none⟩=some x2∧w.cell? ⟨b,3,none⟩=some x3:=⟨h.cell 0 rfl,h.cell 1 rfl,h.cell 2 rfl,h.cell 3 rfl⟩
theorem LocE.cs5 {w:World} {b:Nat} {ty:TypeId} {x0 x1 x2 x3 x4:Value} {l:List Value} (h:LocE w b ty (x0::x1::x2::x3::x4::l)):w.cell? ⟨b,0,none⟩=some x0∧w.cell? ⟨b,1,none⟩=some x1∧w.cell? ⟨b,2,none⟩=some x2∧w.cell? ⟨b,3,none⟩=some x3∧w.cell? ⟨b,4,none⟩=some x4:=⟨h.cell 0 rfl,h.cell 1 rfl,h.cell 2 rfl,h.cell 3 rfl,h.cell 4 rfl⟩
theorem LocE.cs6 {w:World} {b:Nat} {ty:TypeId} {x0 x1 x2 x3 x4 x5:Value} {l:List Value} (h:LocE w b ty (x0::x1::x2::x3::x4::x5::l)):w.cell? ⟨b,0,none⟩=some x0∧w.cell? ⟨b,1,none⟩=some x1∧w.cell? ⟨b,2,none⟩=some x2∧w.cell? ⟨b,3,none⟩=some x3∧w.cell? ⟨b,4,none⟩=some x4∧w.cell? ⟨b,5,none⟩=some x5:=⟨h.cell 0 rfl,h.cell 1 rfl,h.cell 2 rfl,h.cell 3 rfl,h.cell 4 rfl,h.cell 5 rfl⟩
theorem LocE.cs8 {w:World} {b:Nat} {ty:TypeId} {x0 x1 x2 x3 x4 x5 x6 x7:Value} {l:List Value} (h:LocE w b ty (x0::x1::x2::x3::x4::x5::x6::x7::l)):w.cell? ⟨b,0,none⟩=some x0∧w.cell? ⟨b,1,none⟩=some x1∧w.cell? ⟨b,2,none⟩=some x2∧w.cell? ⟨b,3,none⟩=some x3∧w.cell? ⟨b,4,none⟩=some x4∧w.cell? ⟨b,5,none⟩=some x5∧w.cell? ⟨b,6,none⟩=some x6∧w.cell? ⟨b,7,none⟩=some x7:=⟨h.cell 0 rfl,h.cell 1 rfl,h.cell 2 rfl,h.cell 3 rfl,h.cell 4 rfl,h.cell 5 rfl,h.cell 6 rfl,h.cell 7 rfl⟩
theorem LocE.cs9 {w:World} {b:Nat} {ty:TypeId} {x0 x1 x2 x3 x4 x5 x6 x7 x8:Value} {l:List Value} (h:LocE w b ty (x0::x1::x2::x3::x4::x5::x6::x7::x8::l)):w.cell? ⟨b,0,none⟩=some x0∧w.cell? ⟨b,1,none⟩=some x1∧w.cell? ⟨b,2,none⟩=some x2∧w.cell? ⟨b,3,none⟩=some x3∧w.cell? ⟨b,4,none⟩=some x4∧w.cell? ⟨b,5,none⟩=some x5∧w.cell? ⟨b,6,none⟩=some x6∧w.cell? ⟨b,7,none⟩=some x7∧w.cell? ⟨b,8,none⟩=some x8:=⟨h.cell 0 rfl,h.cell 1 rfl,h.cell 2 rfl,h.cell 3 rfl,h.cell 4 rfl,h.cell 5 rfl,h.cell 6 rfl,h.cell 7 rfl,h.cell 8 rfl⟩
theorem hsf_z (a:Addr) (W:World) (g:Fn):(store a (Value.func g #[] #[])).run Tryz.prog W=stored Tryz.prog W a (Value.func g #[] #[]) .plain:=run_store _ W a _ _ rfl
theorem hsn_z (a:Addr) (W:World):(store a Value.nilFunc).run Tryz.prog W=stored Tryz.prog W a Value.nilFunc .plain:=run_store _ W a _ _ rfl
theorem LocE.free {w:World} {b:Nat} {ty:TypeId} {vs:List Value} (h:LocE w b ty vs) (i:Nat):w.frozen? ⟨b,i,none⟩=false:=by
 unfold World.frozen?;simp only;rw[h];simp
theorem LocE.set {w:World} {b:Nat} {ty:TypeId} {vs:List Value} (h:LocE w b ty vs) (i:Nat) (x:Value):LocE (w.setCell ⟨b,i,none⟩ x) b ty (vs.set i x):=by
 have hlt:=h.lt;have h':w.heap[b]= .cells vs.toArray ty (0,0):=by simpa[LocE,Array.getElem?_eq_getElem hlt] using h
 show(w.heap.modify b _)[b]? =_
 rw[Array.getElem?_eq_getElem (by simpa using hlt),Array.getElem_modify_self,h'];simp
theorem LocE.off {w:World} {b c:Nat} {ty:TypeId} {vs:List Value} (h:LocE w b ty vs) (hne:c≠b) (i:Nat) (x:Value):LocE (w.setCell ⟨c,i,none⟩ x) b ty vs:=by
 unfold LocE;rw[Below.heap_setCell _ _ _ _ (fun e=>hne e.symm)]
 exact h
theorem LocE.ne {w:World} {b c:Nat} {ty tz:TypeId} {vs us:List Value} (h:LocE w b ty vs) (g:LocE w c tz us) (hn:vs≠us∨ty≠tz):c≠b:=fun e=>by
 subst e;unfold LocE at h g;rw[h] at g;simp only[Option.some.injEq,Obj.cells.injEq] at g
 rcases hn with hn|hn
 ·exact hn (by simpa using congrArg Array.toList g.1)
 ·exact hn g.2.1
def OffB (b:Nat) (v:Value) (zs:List Nat):Prop:=0<zs.length→ ∀a n c,v= .slice (some a) n c→a.block≠b
theorem rd_offNew {w:World} {k:IntKind} {v:Value} {zs:List Nat} (h:Rd w k v zs) {b:Nat} (hb:w.heap.size≤b):OffB b v zs:=fun hp a n c hv=>by
 obtain⟨ao,cap,rfl,_,_,h3⟩:=h;obtain⟨g,off,rfl,hc⟩:=h3 hp
 cases hv
 have h0:=hc 0 hp
 show g≠b
 intro e;subst e;unfold World.cell? at h0;simp only at h0;rw[Array.getElem?_eq_none hb] at h0
 cases h0
theorem rd_offE {w:World} {k:IntKind} {v:Value} {zs:List Nat} (h:Rd w k v zs) (hn:Dg.Norm zs) {b:Nat} {ty:TypeId} {vs:List Value} (hl:LocE w b ty vs) (hv0: ∀x∈vs,∀n:Int,n≠0→x≠ .int k n):OffB b v zs:=fun hp a n c hv=>by
 obtain⟨ao,cap,rfl,_,_,h3⟩:=h;obtain⟨g,off,rfl,hc⟩:=h3 hp
 cases hv
 have h0:=hc (zs.length-1) (by omega)
 show g≠b
 intro e;subst e;have hnn:zs.getD (zs.length-1) 0≠0:=hn (by intro h;rw[h] at hp;simp at hp);unfold World.cell? at h0;simp only at h0;rw[hl] at h0;simp only[Option.isSome_none,Bool.false_eq_true,if_false,List.getElem?_toArray] at h0;exact hv0 _ (List.mem_of_getElem? h0) _ (by omega) rfl
theorem rd_offU {w:World} {k:IntKind} {v:Value} {zs:List Nat} (h:Rd w k v zs) {b:Nat} {ty:TypeId} {vs:List Value} (hl:LocE w b ty vs) (hv0: ∀x∈vs,∀n:Int,x≠ .int k n):OffB b v zs:=fun hp a n c hv=>by
 obtain⟨ao,cap,rfl,_,_,h3⟩:=h;obtain⟨g,off,rfl,hc⟩:=h3 hp
 cases hv
 have h0:=hc 0 hp
 show g≠b
 intro e;subst e;unfold World.cell? at h0;simp only at h0;rw[hl] at h0;simp only[Option.isSome_none,Bool.false_eq_true,if_false,List.getElem?_toArray] at h0;exact hv0 _ (List.mem_of_getElem? h0) _ rfl
theorem Rd.set {w:World} {k:IntKind} {v:Value} {zs:List Nat} (h:Rd w k v zs) {b:Nat} (ho:OffB b v zs) (i:Nat) (x:Value):Rd (w.setCell ⟨b,i,none⟩ x) k v zs:=by
 obtain⟨ao,cap,rfl,h1,h2,h3⟩:=h;refine⟨ao,cap,rfl,h1,h2,fun hp=> ?_⟩
 obtain⟨g,off,rfl,hc⟩:=h3 hp;have hne:=ho hp _ _ _ rfl;refine⟨g,off,rfl,fun j hj=> ?_⟩
 have hne2:g≠b:=hne;unfold World.cell?;simp only;rw[Below.heap_setCell _ _ _ _ hne2];exact hc j hj
theorem Own.setE {w:World} {base e:Nat} {k:IntKind} {v:Value} {zs:List Nat} (h:Own w base e k v zs) {b:Nat} {ty:TypeId} {vs:List Value} (hl:LocE w b ty vs) (hty:ty≠e) (i:Nat) (x:Value):Own (w.setCell ⟨b,i,none⟩ x) base e k v zs:=by
 obtain⟨h0,h2⟩:=h;refine⟨h0, ?_⟩
 rcases h2 with h2| ⟨g',cap',cur,hv,hbg,hh,r⟩
 ·exact .inl h2
 ·refine .inr ⟨g',cap',cur,hv,hbg, ?_,r⟩
  have hne:g'≠b:=by
   intro e;subst e;unfold LocE at hl;rw[hl] at hh;simp only[Option.some.injEq,Obj.cells.injEq] at hh;exact hty hh.2.1
  rw[Below.heap_setCell _ _ _ _ hne];exact hh
end Go.Proofs.YtnhackdjplppjaaGreatDoor
namespace Go.Proofs.YtnhackdjplppjaaGreatDoor
open Go.RowKit
structure But (b:Nat) (w w':World):Prop where
 os:w'.os=w.os
 tape:w'.tape=w.tape
 output:w'.output=w.output
 size:w'.heap.size=w.heap.size
 block: ∀k,k≠b→w'.heap[k]? =w.heap[k]?
theorem but_set (w:World) (b i:Nat) (x:Value):But b w (w.setCell ⟨b,i,none⟩ x):=
 ⟨rfl,rfl,rfl,by simp[World.setCell],fun _ hk=>Below.heap_setCell _ _ _ _ hk⟩
theorem But.trans {b:Nat} {w w1 w2:World} (h:But b w w1) (k:But b w1 w2):But b w w2:=
 ⟨k.os.trans h.os,k.tape.trans h.tape,k.output.trans h.output,k.size.trans h.size,fun i hi=>(k.block i hi).trans (h.block i hi)⟩
theorem but_sets (b:Nat): ∀(vs:List Value) (o:Nat) (w:World),But b w (w.setCells b o vs)
 | [],_,w=>⟨rfl,rfl,rfl,rfl,fun _ _=>rfl⟩
 |v::r,o,w=>by
  rw[World.setCells];exact(but_set w b o v).trans (but_sets b r (o+1) _)
theorem But.below {b B:Nat} {w0 w w':World} (h:But b w w') (k:Below B w0 w) (hb:B≤b):Below B w0 w':=
 ⟨h.os.trans k.os,h.tape.trans k.tape,h.output.trans k.output,by rw[h.size];exact k.size,fun i hi=>(h.block i (by omega)).trans (k.block i hi)⟩
theorem But.loc {b c:Nat} {w w':World} {ty:TypeId} {vs:List Value} (h:But b w w') (k:LocE w c ty vs) (hne:c≠b):LocE w' c ty vs:=(h.block c hne).trans k
theorem But.cell {b:Nat} {w w':World} (h:But b w w') {a:Addr} (ha:a.block≠b):w'.cell? a=w.cell? a:=by
 unfold World.cell?;rw[h.block a.block ha]
theorem But.rd {b:Nat} {w w':World} {k:IntKind} {v:Value} {zs:List Nat} (h:But b w w') (r:Rd w k v zs) (ho:OffB b v zs):Rd w' k v zs:=by
 obtain⟨ao,cap,rfl,h1,h2,h3⟩:=r;refine⟨ao,cap,rfl,h1,h2,fun hp=> ?_⟩
 obtain⟨g,off,rfl,hc⟩:=h3 hp;have hne:=ho hp _ _ _ rfl;exact⟨g,off,rfl,fun j hj=>(h.cell (a:=⟨g,off+j,none⟩) hne).trans (hc j hj)⟩
theorem But.own {b:Nat} {w w':World} {base e:Nat} {k:IntKind} {v:Value} {zs:List Nat} (h:But b w w') (r:Own w base e k v zs) {ty:TypeId} {vs:List Value} (hl:LocE w b ty vs) (hty:ty≠e):Own w' base e k v zs:=by
 obtain⟨h0,h2⟩:=r;refine⟨h0, ?_⟩
 rcases h2 with h2| ⟨g',cap',cur,hv,hbg,hh,r⟩
 ·exact .inl h2
 ·refine .inr ⟨g',cap',cur,hv,hbg, ?_,r⟩
  have hne:g'≠b:=by
   intro e;subst e;unfold LocE at hl;rw[hl] at hh;simp only[Option.some.injEq,Obj.cells.injEq] at hh;exact hty hh.2.1
  rw[h.block g' hne];exact hh
theorem locE_sets (b:Nat) (ty:TypeId): ∀(vs us pre:List Value) (w:World),LocE w b ty (pre++us)→us.length=vs.length→LocE (w.setCells b pre.length vs) b ty (pre++vs)
 | [],us,pre,w,h,hl=>by
  obtain rfl:us=[]:=List.eq_nil_of_length_eq_zero hl;exact h
 |v::r,us,pre,w,h,hl=>by
  obtain⟨u,us',rfl⟩: ∃u us',us=u::us':=by
   cases us with
   |nil=>simp at hl
   |cons u us'=>exact⟨u,us',rfl⟩
  rw[World.setCells];have h1:=h.set pre.length v;have e1:(pre++u::us').set pre.length v=(pre++[v])++us':=by simp
  rw[e1] at h1;have h2:=locE_sets b ty r us' (pre++[v]) _ h1 (by simpa using hl);have e2:(pre++[v]).length=pre.length+1:=by simp
  rw[e2] at h2;have e3:pre++[v]++r=pre++v::r:=by simp
  rw[e3] at h2;exact h2
theorem LocE.range {w:World} {b:Nat} {tb:TypeId} {vs:List Value} (h:LocE w b tb vs):w.rangeAt b 0 vs:=fun j _ hv=>by rw[Nat.zero_add];exact h.cell j hv
theorem LocE.there {w:World} {b:Nat} {tb:TypeId} {us:List Value} (h:LocE w b tb us) (n:Nat) (hn:n=us.length):w.there b 0 n:=fun j hj=>by
 have hj':j<us.length:=by omega
 rw[Nat.zero_add];exact⟨by rw[h.cell j (List.getElem?_eq_getElem hj')];rfl,h.free j⟩
theorem LocE.sets {w:World} {b:Nat} {tb:TypeId} {us:List Value} (h:LocE w b tb us) (vs:List Value) (hl:us.length=vs.length):LocE (w.setCells b 0 vs) b tb vs:=by
 have:=locE_sets b tb vs us [] w h hl
 simpa using this
end Go.Proofs.YtnhackdjplppjaaGreatDoor
namespace Go.Proofs.YtnhackdjplppjaaGreatDoor
open Go.RowKit
def famC (n:Int):Int:=if n<1∨8<n then 0 else if n≤3 then 1 else if n≤5 then 2 else 3
theorem family_any (n:Int) (w:World):Calls Tryz.prog 136 #[yi n] w fun z w'=>z= .returned (yi (famC n))∧w'=w:=by
 unfold famC
 by_cases h1:n<1
 ·rw[if_pos (.inl h1)]
  go_enter Tryz.func136,Tryz.ntmps136
  go_wp2
  go_ret
  exact⟨rfl,rfl⟩
 ·by_cases h2:8<n
  ·rw[if_pos (.inr h2)]
   go_enter Tryz.func136,Tryz.ntmps136
   go_wp2
   go_ret
   exact⟨rfl,rfl⟩
  ·rw[if_neg (by omega)]
   by_cases h3:n≤3
   ·rw[if_pos h3]
    go_enter Tryz.func136,Tryz.ntmps136
    go_wp2
    go_ret
    exact⟨rfl,rfl⟩
   ·rw[if_neg h3]
    by_cases h4:n≤5
    ·rw[if_pos h4]
     go_enter Tryz.func136,Tryz.ntmps136
     go_wp2
     go_ret
     exact⟨rfl,rfl⟩
    ·rw[if_neg h4]
     go_enter Tryz.func136,Tryz.ntmps136
     go_wp2
     go_ret
     exact⟨rfl,rfl⟩
end Go.Proofs.YtnhackdjplppjaaGreatDoor
namespace Go.Proofs.YtnhackdjplppjaaGreatDoor
open Go.RowKit
def layV:Nat→List Value
 |1=>[yi 2,yi 24,yi (-149),yi 104,.bool true,yi 4,yi 8,yi 1,.func (.func 200) #[] #[]]
 |2=>[yi 2,yi 53,yi (-1074),yi 971,.bool true,yi 8,yi 11,yi 1,.func (.func 200) #[] #[]]
 |3=>[yi 2,yi 64,yi (-16445),yi 16320,.bool true,yi 10,yi 15,yi 1,.func (.func 201) #[] #[]]
 |4=>[yi 16,yi 6,yi (-70),yi 57,.bool false,yi 4,yi 7,yi 2,.func (.func 200) #[] #[]]
 |5=>[yi 16,yi 14,yi (-78),yi 49,.bool false,yi 8,yi 7,yi 2,.func (.func 200) #[] #[]]
 |6=>[yi 2,yi 24,yi (-151),yi 103,.bool false,yi 4,yi 8,yi 3,.func (.func 203) #[] #[]]
 |7=>[yi 2,yi 56,yi (-183),yi 71,.bool false,yi 8,yi 8,yi 3,.func (.func 203) #[] #[]]
 |8=>[yi 2,yi 53,yi (-1076),yi 970,.bool false,yi 8,yi 11,yi 3,.func (.func 203) #[] #[]]
 |_=>(yzL 0 0 0 0 false 0 0 0)
def layAll:List Value:=[yi 0,yi 0,yi 0,yi 0,.bool false,yi 0,yi 0,yi 0,.nilFunc,yi 2,yi 24,yi (-149),yi 104,.bool true,yi 4,yi 8,yi 1,.func (.func 200) #[] #[],yi 2,yi 53,yi (-1074),yi 971,.bool true,yi 8,yi 11,yi 1,.func (.func 200) #[] #[],yi 2,yi 64,yi (-16445),yi 16320,.bool true,yi 10,yi 15,yi 1,.func (.func 201) #[] #[],yi 16,yi 6,yi (-70),yi 57,.bool false,yi 4,yi 7,yi 2,.func (.func 200) #[] #[],yi 16,yi 14,yi (-78),yi 49,.bool false,yi 8,yi 7,yi 2,.func (.func 200) #[] #[],yi 2,yi 24,yi (-151),yi 103,.bool false,yi 4,yi 8,yi 3,.func (.func 203) #[] #[],yi 2,yi 56,yi (-183),yi 71,.bool false,yi 8,yi 8,yi 3,.func (.func 203) #[] #[],yi 2,yi 53,yi (-1076),yi 970,.bool false,yi 8,yi 11,yi 3,.func (.func 203) #[] #[]]
theorem results_one {P:Program} {fn:Func} {a:Nat} {ty:TypeId} {tmps:Array Value} {w:World} {b:Nat} {v:Value} (hres:fn.results= #[.cell a ty]) (hp:tmps.getD a undef= .pointer (some ⟨b,0,none⟩)) (hl:(loadVar ty ⟨b,0,none⟩).run P w= .ok v w):(results fn tmps).run P w= .ok v w:=by
 rw[Array.getD_eq_getD_getElem?] at hp;unfold results;simp[hres,hp,asAddr,hl]
set_option maxHeartbeats 6400000 in
set_option maxRecDepth 20000 in
theorem layouts_any (w:World):Calls Tryz.prog 153 #[] w fun z w'=>z= .returned (.agg layAll.toArray)∧Below w.heap.size w w':=by
 have l0:LocE (w.alloc (.cells Tryz.zeroCells209 209)) w.heap.size 209 Tryz.zeroCells209.toList:=by
  have:=locE_new w Tryz.zeroCells209.toList 209
  rwa [Array.toArray_toList] at this
 have th:=l0.there 81 (by kernel_rfl);have cR:=l0.sets layAll (by kernel_rfl);have bu:=but_sets w.heap.size layAll 0 (w.alloc (.cells Tryz.zeroCells209 209));have bR:=bu.below (below_alloc w (.cells Tryz.zeroCells209 209)) (Nat.le_refl _);have hl:=run_loadVar_mid (P:=Tryz.prog) _ w.heap.size 0 209 layAll _ cR.range Tryz.underlying209 rfl (by kernel_rfl);have HH:Hid (_∧_):=⟨hl,bR⟩;clear hl bR cR bu l0
 go_enter Tryz.func153,Tryz.ntmps153
 go_wp2_with (refine wpList_store_mid rfl 209 (.tmp 0) (.tmp 28) rfl w.heap.size 0 #[yi 0,yi 0,yi 0,yi 0,.bool false,yi 0,yi 0,yi 0,.nilFunc,yi 2,yi 24,yi (-149),yi 104,.bool true,yi 4,yi 8,yi 1,.func (.func 200) #[] #[],yi 2,yi 53,yi (-1074),yi 971,.bool true,yi 8,yi 11,yi 1,.func (.func 200) #[] #[],yi 2,yi 64,yi (-16445),yi 16320,.bool true,yi 10,yi 15,yi 1,.func (.func 201) #[] #[],yi 16,yi 6,yi (-70),yi 57,.bool false,yi 4,yi 7,yi 2,.func (.func 200) #[] #[],yi 16,yi 14,yi (-78),yi 49,.bool false,yi 8,yi 7,yi 2,.func (.func 200) #[] #[],yi 2,yi 24,yi (-151),yi 103,.bool false,yi 4,yi 8,yi 3,.func (.func 203) #[] #[],yi 2,yi 56,yi (-183),yi 71,.bool false,yi 8,yi 8,yi 3,.func (.func 203) #[] #[],yi 2,yi 53,yi (-1076),yi 970,.bool false,yi 8,yi 11,yi 3,.func (.func 203) #[] #[]] rfl rfl th (by kernel_rfl) (by simp[Value.oneCell']) ?_)
 change bodyPost _ _ _ _ _ (World.setCells (w.alloc (.cells Tryz.zeroCells209 209)) w.heap.size 0 layAll);obtain⟨hl,bR⟩:=HH.out;generalize World.setCells (w.alloc (.cells Tryz.zeroCells209 209)) w.heap.size 0 layAll=W at hl bR⊢;exact bodyPost_ret (v:= .agg layAll.toArray) (results_one Tryz.results153 rfl hl) rfl ⟨rfl,bR⟩
end Go.Proofs.YtnhackdjplppjaaGreatDoor
namespace Go.Proofs.YtnhackdjplppjaaGreatDoor
open Go.RowKit
theorem results_two {P:Program} {fn:Func} {a t:Nat} {ty:TypeId} {tmps:Array Value} {w:World} {b:Nat} {v u:Value} (hres:fn.results= #[.cell a ty,.tmp t]) (hp:tmps.getD a undef= .pointer (some ⟨b,0,none⟩)) (hu:tmps.getD t undef=u) (hl:(loadVar ty ⟨b,0,none⟩).run P w= .ok v w):(results fn tmps).run P w= .ok (.tuple #[v,u]) w:=by
 rw[Array.getD_eq_getD_getElem?] at hp hu;unfold results;simp[hres,hp,hu,asAddr,hl]
def LayRes (w:World) (n:Nat) (c:Int) (e:Ending) (w':World):Prop:=
 e= .returned (.tuple #[.agg (layV n).toArray,yi c])∧Below w.heap.size w w'
set_option maxHeartbeats 3200000 in
theorem layoutOf_none (n:Int) (w:World) (h:famC n=0):Calls Tryz.prog 97 #[yi n] w (LayRes w 0 6):=by
 have hf:=family_any n;rw[h] at hf;have HF:Hid _:=hf;clear hf h;have l0:=locE_new w (yzL 0 0 0 0 false 0 0 0) 144;have hsn:=hsn_z;have b0:=below_alloc w (.cells (yzL 0 0 0 0 false 0 0 0).toArray 144);have hl:=run_loadVar_mid (P:=Tryz.prog) _ w.heap.size 0 144 (layV 0) _ l0.range Tryz.underlying144 rfl (by kernel_rfl);have HH:Hid (_∧_):=⟨hl,b0⟩;clear hl b0 l0
 go_enter Tryz.func97,Tryz.ntmps97
 go_wp2_with fail
 refine(HF.out _).mono ?_;rintro z w' ⟨rfl,rfl⟩
 go_wp2
 obtain⟨hl,bR⟩:=HH.out;exact bodyPost_ret (results_two Tryz.results97 rfl rfl hl) rfl ⟨rfl,bR⟩
set_option maxHeartbeats 3200000 in
theorem layoutOf_W (k R D L G sz ex fam c:Int) (gr:Bool) (F:Nat) (A:Value) (w:World) (hc:(c==0)=false)
  (HF: ∀w1,Calls Tryz.prog 136 #[yi k] w1 fun z w'=>z= .returned (yi c)∧w'=w1)
  (HL: ∀w1,Calls Tryz.prog 153 #[] w1 fun z w'=>z= .returned A∧Below w1.heap.size w1 w')
  (hix: ∀W:World,(Instr.index 209 A (yi k)).run Tryz.prog W= .ok (ylV R D L G gr sz ex fam F) W):
  Calls Tryz.prog 97 #[yi k] w fun z w'=>z= .returned (.tuple #[ylV R D L G gr sz ex fam F,yi 0])∧Below w.heap.size w w':=by
 replace HF:Hid _:=HF;replace HL:Hid _:=HL;have hsf:=hsf_z;have l0:=locE_new w (yzL 0 0 0 0 false 0 0 0) 144;have b0:=below_alloc w (.cells (yzL 0 0 0 0 false 0 0 0).toArray 144)
 go_enter Tryz.func97,Tryz.ntmps97
 go_wp2_with fail
 refine(HF.out _).mono ?_;rintro z w' ⟨rfl,rfl⟩
 go_wp2_with fail
 refine(HL.out _).mono ?_;rintro z w2 ⟨rfl,b2⟩;have l2:=l0.later b2;have cR:LocE (((((((((w2.setCell ⟨w.heap.size,0,none⟩ (yi R)).setCell ⟨w.heap.size,1,none⟩ (yi D)).setCell ⟨w.heap.size,2,none⟩ (yi L)).setCell ⟨w.heap.size,3,none⟩ (yi G)).setCell ⟨w.heap.size,4,none⟩ (.bool gr)).setCell ⟨w.heap.size,5,none⟩ (yi sz)).setCell ⟨w.heap.size,6,none⟩ (yi ex)).setCell ⟨w.heap.size,7,none⟩ (yi fam)).setCell ⟨w.heap.size,8,none⟩ (.func (.func F) #[] #[])) w.heap.size 144 (ylL R D L G gr sz ex fam F):=(((((((((l2.set 0 (yi R)).set 1 (yi D)).set 2 (yi L)).set 3 (yi G)).set 4 (.bool gr)).set 5 (yi sz)).set 6 (yi ex)).set 7 (yi fam)).set 8 (.func (.func F) #[] #[]));have bR:=(((((((((but_set w2 w.heap.size 0 (yi R)).trans (but_set _ w.heap.size 1 (yi D))).trans (but_set _ w.heap.size 2 (yi L))).trans (but_set _ w.heap.size 3 (yi G))).trans (but_set _ w.heap.size 4 (.bool gr))).trans (but_set _ w.heap.size 5 (yi sz))).trans (but_set _ w.heap.size 6 (yi ex))).trans (but_set _ w.heap.size 7 (yi fam))).trans (but_set _ w.heap.size 8 (.func (.func F) #[] #[]))).below (below_trans b0 b2) (Nat.le_refl _);have hl:=run_loadVar_mid (P:=Tryz.prog) _ w.heap.size 0 144 (ylL R D L G gr sz ex fam F) _ cR.range Tryz.underlying144 rfl (by kernel_rfl);have HH:Hid (_∧_):=⟨hl,bR⟩;have f0:=l2.free 0;have f1:=l2.free 1;have f2:=l2.free 2;have f3:=l2.free 3;have f4:=l2.free 4;have f5:=l2.free 5;have f6:=l2.free 6;have f7:=l2.free 7;have f8:=l2.free 8;obtain⟨x0,x1,x2,x3,x4,x5,x6,x7,x8⟩:=l2.cs9;clear hl bR cR l0 l2 b0 b2 HF HL
 go_wp2
 obtain⟨hl,bR⟩:=HH.out;exact bodyPost_ret (results_two Tryz.results97 rfl rfl hl) rfl ⟨rfl,bR⟩
theorem layoutOf_1 (w:World):Calls Tryz.prog 97 #[yi 1] w (LayRes w 1 0):=
 layoutOf_W 1 _ _ _ _ _ _ _ 1 _ _ _ w rfl (family_any 1) layouts_any (fun W=>by kernel_rfl)
theorem layoutOf_2 (w:World):Calls Tryz.prog 97 #[yi 2] w (LayRes w 2 0):=
 layoutOf_W 2 _ _ _ _ _ _ _ 1 _ _ _ w rfl (family_any 2) layouts_any (fun W=>by kernel_rfl)
theorem layoutOf_3 (w:World):Calls Tryz.prog 97 #[yi 3] w (LayRes w 3 0):=
 layoutOf_W 3 _ _ _ _ _ _ _ 1 _ _ _ w rfl (family_any 3) layouts_any (fun W=>by kernel_rfl)
theorem layoutOf_4 (w:World):Calls Tryz.prog 97 #[yi 4] w (LayRes w 4 0):=
 layoutOf_W 4 _ _ _ _ _ _ _ 2 _ _ _ w rfl (family_any 4) layouts_any (fun W=>by kernel_rfl)
theorem layoutOf_5 (w:World):Calls Tryz.prog 97 #[yi 5] w (LayRes w 5 0):=
 layoutOf_W 5 _ _ _ _ _ _ _ 2 _ _ _ w rfl (family_any 5) layouts_any (fun W=>by kernel_rfl)
theorem layoutOf_6 (w:World):Calls Tryz.prog 97 #[yi 6] w (LayRes w 6 0):=
 layoutOf_W 6 _ _ _ _ _ _ _ 3 _ _ _ w rfl (family_any 6) layouts_any (fun W=>by kernel_rfl)
theorem layoutOf_7 (w:World):Calls Tryz.prog 97 #[yi 7] w (LayRes w 7 0):=
 layoutOf_W 7 _ _ _ _ _ _ _ 3 _ _ _ w rfl (family_any 7) layouts_any (fun W=>by kernel_rfl)
theorem layoutOf_8 (w:World):Calls Tryz.prog 97 #[yi 8] w (LayRes w 8 0):=
 layoutOf_W 8 _ _ _ _ _ _ _ 3 _ _ _ w rfl (family_any 8) layouts_any (fun W=>by kernel_rfl)
end Go.Proofs.YtnhackdjplppjaaGreatDoor
namespace Go.Proofs.YtnhackdjplppjaaGreatDoor
open Go.RowKit
def szN:Nat→Nat
 |1=>4|2=>8|3=>10|4=>4|5=>8|6=>4|7=>8|8=>8|_=>0
def exN:Nat→Nat
 |1=>8|2=>11|3=>15|4=>7|5=>7|6=>8|7=>8|8=>11|_=>0
def dgN:Nat→Nat
 |1=>24|2=>53|3=>64|4=>6|5=>14|6=>24|7=>56|8=>53|_=>0
def rdN:Nat→Nat
 |4=>16|5=>16|_=>2
def lsI:Nat→Int
 |1=> -149|2=> -1074|3=> -16445|4=> -70|5=> -78|6=> -151|7=> -183|8=> -1076|_=>0
def frN (k:Nat):Nat:=8*szN k-1-exN k
def onesN (k:Nat):Nat:=2^exN k-1
def leadN (k:Nat):Nat:=2^ (dgN k-1)
def wrN (k:Nat):Nat:=if k=3 then 2^63 else if k=4 then 2^5 else if k=5 then 2^13 else 0
theorem eight {k:Nat} (h:1≤k∧k≤8):k=1∨k=2∨k=3∨k=4∨k=5∨k=6∨k=7∨k=8:=by omega
theorem zeroOr_any (b:Bool) (w:World):Calls Tryz.prog 195 #[.bool b] w fun z w'=>z= .returned (yi (if b then 1 else 2))∧w'=w:=by
 cases b
 ·go_enter Tryz.func195,Tryz.ntmps195
  go_wp2
  go_ret
  exact⟨rfl,rfl⟩
 ·go_enter Tryz.func195,Tryz.ntmps195
  go_wp2
  go_ret
  exact⟨rfl,rfl⟩
set_option maxHeartbeats 1600000 in
theorem lfraction_any (k:Nat) (hk:1≤k∧k≤8) (w:World):Calls Tryz.prog 197 #[.agg (layV k).toArray] w fun z w'=>z= .returned (yi ((frN k:Nat):Int))∧Below w.heap.size w w':=by
 have hsf:=hsf_z
 rcases eight hk with rfl|rfl|rfl|rfl|rfl|rfl|rfl|rfl
 all_goals
  change Calls _ _ #[.agg #[_,_,_,_,_,_,_,_,_]] _ _
  go_enter Tryz.func197,Tryz.ntmps197
  go_wp2
  go_ret
  exact⟨rfl,below_alloc _ _⟩
set_option maxHeartbeats 1600000 in
theorem lones_any (k:Nat) (hk:1≤k∧k≤8) (w:World):Calls Tryz.prog 205 #[.agg (layV k).toArray] w fun z w'=>z= .returned (yi ((onesN k:Nat):Int))∧Below w.heap.size w w':=by
 have hsf:=hsf_z
 rcases eight hk with rfl|rfl|rfl|rfl|rfl|rfl|rfl|rfl
 all_goals
  change Calls _ _ #[.agg #[_,_,_,_,_,_,_,_,_]] _ _
  go_enter Tryz.func205,Tryz.ntmps205
  go_wp2
  go_ret
  exact⟨rfl,below_alloc _ _⟩
set_option maxHeartbeats 1600000 in
theorem llead_any (k:Nat) (hk:1≤k∧k≤8) (w:World):Calls Tryz.prog 198 #[.agg (layV k).toArray] w fun z w'=>z= .returned (.int .u64 ((leadN k:Nat):Int))∧Below w.heap.size w w':=by
 have hsf:=hsf_z
 rcases eight hk with rfl|rfl|rfl|rfl|rfl|rfl|rfl|rfl
 all_goals
  change Calls _ _ #[.agg #[_,_,_,_,_,_,_,_,_]] _ _
  go_enter Tryz.func198,Tryz.ntmps198
  go_wp2
  go_ret
  exact⟨rfl,below_alloc _ _⟩
set_option maxHeartbeats 1600000 in
theorem lwritten_lt (R D L G sz ex fam fr:Int) (gr:Bool) (F:Nat) (w:World) (hlt:fr<D)
  (HF: ∀w1,Calls Tryz.prog 197 #[ylV R D L G gr sz ex fam F] w1 fun z w'=>z= .returned (yi fr)∧Below w1.heap.size w1 w'):
  Calls Tryz.prog 206 #[ylV R D L G gr sz ex fam F] w fun z w'=>z= .returned (.int .u64 0)∧Below w.heap.size w w':=by
 have hsf:=hsf_z;replace HF:Hid _:=HF;have l0:=locE_new w (ylL R D L G gr sz ex fam F) 144;have b0:=below_alloc w (.cells (ylL R D L G gr sz ex fam F).toArray 144);obtain⟨x0,x1,x2,x3,x4,x5,x6,x7,x8⟩:=l0.cs9
 go_enter Tryz.func206,Tryz.ntmps206
 go_wp2_with fail
 go_region_held3 (fun wq=>wq.cell? ⟨w.heap.size,0,none⟩=some (yi R)∧wq.cell? ⟨w.heap.size,1,none⟩=some (yi D)∧wq.cell? ⟨w.heap.size,2,none⟩=some (yi L)∧wq.cell? ⟨w.heap.size,3,none⟩=some (yi G)∧wq.cell? ⟨w.heap.size,4,none⟩=some (.bool gr)∧wq.cell? ⟨w.heap.size,5,none⟩=some (yi sz)∧wq.cell? ⟨w.heap.size,6,none⟩=some (yi ex)∧wq.cell? ⟨w.heap.size,7,none⟩=some (yi fam)∧wq.cell? ⟨w.heap.size,8,none⟩=some (.func (.func F) #[] #[])) (go_keep) (first
  | (go_at_call 197;refine(HF.out _).mono ?_;rintro z w2 ⟨rfl,b2⟩;have l2:=l0.drew.later b2;obtain⟨y0,y1,y2,y3,y4,y5,y6,y7,y8⟩:=l2.cs9))
 all_goals go_wp2
 all_goals go_ret
 all_goals exact⟨rfl,below_trans b0.drew b2⟩
set_option maxHeartbeats 1600000 in
theorem lwritten_ge (R D L G sz ex fam fr ld:Int) (gr:Bool) (F:Nat) (w:World) (hlt: ¬fr<D)
  (HF: ∀w1,Calls Tryz.prog 197 #[ylV R D L G gr sz ex fam F] w1 fun z w'=>z= .returned (yi fr)∧Below w1.heap.size w1 w')
  (HL: ∀w1,Calls Tryz.prog 198 #[ylV R D L G gr sz ex fam F] w1 fun z w'=>z= .returned (.int .u64 ld)∧Below w1.heap.size w1 w'):
  Calls Tryz.prog 206 #[ylV R D L G gr sz ex fam F] w fun z w'=>z= .returned (.int .u64 ld)∧Below w.heap.size w w':=by
 have hsf:=hsf_z;replace HF:Hid _:=HF;replace HL:Hid _:=HL;have l0:=locE_new w (ylL R D L G gr sz ex fam F) 144;have b0:=below_alloc w (.cells (ylL R D L G gr sz ex fam F).toArray 144);obtain⟨x0,x1,x2,x3,x4,x5,x6,x7,x8⟩:=l0.cs9
 go_enter Tryz.func206,Tryz.ntmps206
 go_wp2_with fail
 go_region_held3 (fun wq=>wq.cell? ⟨w.heap.size,0,none⟩=some (yi R)∧wq.cell? ⟨w.heap.size,1,none⟩=some (yi D)∧wq.cell? ⟨w.heap.size,2,none⟩=some (yi L)∧wq.cell? ⟨w.heap.size,3,none⟩=some (yi G)∧wq.cell? ⟨w.heap.size,4,none⟩=some (.bool gr)∧wq.cell? ⟨w.heap.size,5,none⟩=some (yi sz)∧wq.cell? ⟨w.heap.size,6,none⟩=some (yi ex)∧wq.cell? ⟨w.heap.size,7,none⟩=some (yi fam)∧wq.cell? ⟨w.heap.size,8,none⟩=some (.func (.func F) #[] #[])) (go_keep) (first
  | (go_at_call 197;refine(HF.out _).mono ?_;rintro z w2 ⟨rfl,b2⟩;have l2:=l0.drew.later b2;obtain⟨y0,y1,y2,y3,y4,y5,y6,y7,y8⟩:=l2.cs9))
 all_goals go_wp2_with fail
 all_goals (refine(HL.out _).mono ?_;rintro z w3 ⟨rfl,b3⟩;go_wp2;go_ret;exact⟨rfl,below_trans (below_trans b0.drew b2) b3⟩)
theorem lwritten_any (k:Nat) (hk:1≤k∧k≤8) (w:World):Calls Tryz.prog 206 #[.agg (layV k).toArray] w fun z w'=>z= .returned (.int .u64 ((wrN k:Nat):Int))∧Below w.heap.size w w':=by
 have HF:=fun w1=>lfraction_any k hk w1
 have HL:=fun w1=>llead_any k hk w1
 rcases eight hk with rfl|rfl|rfl|rfl|rfl|rfl|rfl|rfl
 all_goals first|exact lwritten_lt _ _ _ _ _ _ _ _ _ _ w (by decide) HF|exact lwritten_ge _ _ _ _ _ _ _ _ _ _ _ w (by decide) HF HL
end Go.Proofs.YtnhackdjplppjaaGreatDoor

/-
  Texts laid together: Co18, Ex, Dy3.
-/
import Derived.Laws.ResultCell
import Derived.Test.YtnhackdjplppjaaGreatDoorSp07
set_option maxRecDepth 100000
namespace Go.Proofs.YtnhackdjplppjaaGreatDoor
open Go.RowKit
def DecRes (w:World) (c:Int) (ng:Bool) (m:Nat) (p:Int) (er:Int) (z:Ending) (w':World):Prop:=
 ∃v,z= .returned (.tuple #[yvV c ng v p,yi er])∧Rd w' .u32 v (Dg.dg 4294967296 m)∧Below w.heap.size w w'
set_option maxHeartbeats 3200000 in
theorem decode_W (n:Int) (R sz ex:Nat) (D L G fam:Int) (gr:Bool) (F:Nat) (ng:Bool) (e f:Nat) (c:Int) (gg:Bool) (m:Nat) (p:Int) (s:ByteArray) (w:World)
  (HR: ∀w1,Calls Tryz.prog 95 #[yi n,.string s] w1 fun z w'=>z= .returned (.tuple #[ylV (R:Int) D L G gr (sz:Int) (ex:Int) fam F,yfV ng (e:Int) (f:Int),yi 0])∧Below w1.heap.size w1 w')
  (HV: ∀w1,Calls Tryz.prog 96 #[ylV (R:Int) D L G gr (sz:Int) (ex:Int) fam F,yfV ng (e:Int) (f:Int)] w1 (ValRes w1 c gg m p)):
  Calls Tryz.prog 43 #[yi n,.string s] w (DecRes w c gg m p 0):=by
 have hsf:=hsf_z;have HR':Hid _:=HR;have HV':Hid _:=HV;have v0:=locE_new w (yvL 0 false (.slice none 0 0) 0) 73;have b0:=below_alloc w (.cells (yvL 0 false (.slice none 0 0) 0).toArray 73);clear HR HV
 go_enter Tryz.func43,Tryz.ntmps43
 go_wp2_with fail
 refine(HR'.out _).mono ?_;rintro z w1 ⟨rfl,b1⟩;have bl:=below_alloc w1 (.cells (ylL (R:Int) D L G gr (sz:Int) (ex:Int) fam F).toArray 144);have bf:=below_alloc (w1.alloc (.cells (ylL (R:Int) D L G gr (sz:Int) (ex:Int) fam F).toArray 144)) (.cells (yfL ng (e:Int) (f:Int)).toArray 147);have v2:=((v0.later b1).later bl).later bf;have b2:=below_trans (below_trans (below_trans b0 b1) bl) bf
 go_wp2_with fail
 refine(HV'.out _).mono ?_;rintro z w3 ⟨v,rfl,r3,b3⟩;obtain⟨vo,vc,hv⟩:=r3.shape;subst hv;have v3:=v2.later b3;have b03:=below_trans b2 b3;have ov:=rd_offE r3 (Dg.norm_dg _ _ (by omega)) v3 (fun x hx n hn=>by simp at hx;rcases hx with rfl|rfl|rfl|rfl<;>simp)
 have bu:=(((but_set w3 w.heap.size 0 (yi c)).trans (but_set _ w.heap.size 1 (.bool gg))).trans (but_set _ w.heap.size 2 (.slice vo (Dg.dg 4294967296 m).length vc))).trans (but_set _ w.heap.size 3 (yi p));have cR:LocE ((((w3.setCell ⟨w.heap.size,0,none⟩ (yi c)).setCell ⟨w.heap.size,1,none⟩ (.bool gg)).setCell ⟨w.heap.size,2,none⟩ (.slice vo (Dg.dg 4294967296 m).length vc)).setCell ⟨w.heap.size,3,none⟩ (yi p)) w.heap.size 73 (yvL c gg (.slice vo (Dg.dg 4294967296 m).length vc) p):=((((v3.set 0 (yi c)).set 1 (.bool gg)).set 2 (.slice vo (Dg.dg 4294967296 m).length vc)).set 3 (yi p));have bR:=bu.below b03 (Nat.le_refl _);have rR:=bu.rd r3 ov;have hl:=run_loadVar_mid (P:=Tryz.prog) _ w.heap.size 0 73 (yvL c gg (.slice vo (Dg.dg 4294967296 m).length vc) p) _ cR.range Tryz.underlying73 rfl (by kernel_rfl);have HH:Hid (_∧_∧_):=⟨hl,rR,bR⟩;obtain⟨x0,x1,x2,x3⟩:=v3.cs4;have j0:=v3.free 0;have j1:=v3.free 1;have j2:=v3.free 2;have j3:=v3.free 3;clear hl bR rR cR bu ov v3 b03 r3 b3 v2 b2 bl bf b1 v0 b0
 go_wp2
 obtain⟨hl,rR,bR⟩:=HH.out;exact bodyPost_ret (results_two Tryz.results43 rfl rfl hl) rfl ⟨_,rfl,rR,bR⟩
set_option maxHeartbeats 3200000 in
theorem decode_err (n:Int) (er:Int) (her:er≠0) (s:ByteArray) (w:World)
  (HR: ∀w1,Calls Tryz.prog 95 #[yi n,.string s] w1 fun z w'=>z= .returned (.tuple #[yzV 0 0 0 0 false 0 0 0,yfV false 0 0,yi er])∧Below w1.heap.size w1 w'):
  Calls Tryz.prog 43 #[yi n,.string s] w (DecRes w 0 false 0 0 er):=by
 have hsn:=hsn_z;have HR':Hid _:=HR;have v0:=locE_new w (yvL 0 false (.slice none 0 0) 0) 73;have b0:=below_alloc w (.cells (yvL 0 false (.slice none 0 0) 0).toArray 73);have he:(er==0)=false:=by simpa using her
 clear HR her
 go_enter Tryz.func43,Tryz.ntmps43
 go_wp2_with fail
 refine(HR'.out _).mono ?_;rintro z w1 ⟨rfl,b1⟩;have bl:=below_alloc w1 (.cells (yzL 0 0 0 0 false 0 0 0).toArray 144);have bf:=below_alloc (w1.alloc (.cells (yzL 0 0 0 0 false 0 0 0).toArray 144)) (.cells (yfL false 0 0).toArray 147);have v2:=((v0.later b1).later bl).later bf;have b2:=below_trans (below_trans (below_trans b0 b1) bl) bf;have bu:=(((but_set ((w1.alloc (.cells (yzL 0 0 0 0 false 0 0 0).toArray 144)).alloc (.cells (yfL false 0 0).toArray 147)) w.heap.size 0 (yi 0)).trans (but_set _ w.heap.size 1 (.bool false))).trans (but_set _ w.heap.size 2 (.slice none 0 0))).trans (but_set _ w.heap.size 3 (yi 0));have cR:LocE ((((((w1.alloc (.cells (yzL 0 0 0 0 false 0 0 0).toArray 144)).alloc (.cells (yfL false 0 0).toArray 147)).setCell ⟨w.heap.size,0,none⟩ (yi 0)).setCell ⟨w.heap.size,1,none⟩ (.bool false)).setCell ⟨w.heap.size,2,none⟩ (.slice none 0 0)).setCell ⟨w.heap.size,3,none⟩ (yi 0)) w.heap.size 73 (yvL 0 false (.slice none 0 0) 0):=((((v2.set 0 (yi 0)).set 1 (.bool false)).set 2 (.slice none 0 0)).set 3 (yi 0));have bR:=bu.below b2 (Nat.le_refl _);have hl:=run_loadVar_mid (P:=Tryz.prog) _ w.heap.size 0 73 (yvL 0 false (.slice none 0 0) 0) _ cR.range Tryz.underlying73 rfl (by kernel_rfl);have HH:Hid (_∧_):=⟨hl,bR⟩;have hnA:w1.heap.size≠w.heap.size:=Nat.ne_of_gt (v0.later b1).lt;have hnB:w1.heap.size+1≠w.heap.size:=by have:=(v0.later b1).lt;omega
 obtain⟨x0,x1,x2,x3⟩:=v2.cs4;have j0:=v2.free 0;have j1:=v2.free 1;have j2:=v2.free 2;have j3:=v2.free 3;clear hl bR cR bu v2 b2 bl bf b1 v0 b0
 go_wp2
 obtain⟨hl,bR⟩:=HH.out;exact bodyPost_ret (results_two Tryz.results43 rfl rfl hl) rfl ⟨_,rfl,rd_nil _ _,bR⟩
def patC (n:Int) (s:ByteArray):Int:=if famC n=0 then 6 else if s.size=szN n.toNat then 0 else 1
theorem famC_in {n:Int} (h:famC n≠0):1≤n.toNat∧n.toNat≤8∧((n.toNat:Nat):Int)=n:=by
 unfold famC at h
 by_cases c:n<1∨8<n
 ·rw[if_pos c] at h
  exact absurd rfl h
 ·omega
theorem codecRead_ok (n:Int) (s:ByteArray) (w:World) (h:patC n s=0):
  Calls Tryz.prog 95 #[yi n,.string s] w fun z w'=>z= .returned (.tuple #[.agg (layV n.toNat).toArray,yfV (fldN n.toNat s) ((fldE n.toNat s:Nat):Int) ((fldF n.toNat s:Nat):Int),yi 0])∧Below w.heap.size w w':=by
 unfold patC at h
 by_cases hf:famC n=0
 ·rw[if_pos hf] at h
  omega
 ·rw[if_neg hf] at h
  obtain⟨h1,h2,h3⟩:=famC_in hf;obtain⟨k,rfl⟩: ∃k:Nat,n=(k:Int):=⟨n.toNat,h3.symm⟩;rw[Int.toNat_natCast] at h h1 h2⊢;have hs:s.size=szN k:=by
   by_cases c:s.size=szN k
   ·exact c
   ·rw[if_neg c] at h
    omega
  have HL:=fun w1=>layoutOf_any k ⟨h1,h2⟩ w1
  have HR:=fun w1=>cread_any k ⟨h1,h2⟩ s w1 hs
  generalize fldN k s=ng at*;generalize fldE k s=e at*;generalize fldF k s=f at*
  rcases eight ⟨h1,h2⟩ with rfl|rfl|rfl|rfl|rfl|rfl|rfl|rfl
  all_goals exact codecRead_W _ _ _ _ _ _ _ _ _ _ ng e f s w hs HL HR
theorem codecRead_bad (n:Int) (s:ByteArray) (w:World) (h:patC n s≠0):
  Calls Tryz.prog 95 #[yi n,.string s] w fun z w'=>z= .returned (.tuple #[yzV 0 0 0 0 false 0 0 0,yfV false 0 0,yi (patC n s)])∧Below w.heap.size w w':=by
 unfold patC at h⊢
 by_cases hf:famC n=0
 ·rw[if_pos hf]
  exact codecRead_none n s w (fun w1=>layoutOf_none n w1 hf)
 ·rw[if_neg hf] at h⊢
  obtain⟨h1,h2,h3⟩:=famC_in hf;obtain⟨k,rfl⟩: ∃k:Nat,n=(k:Int):=⟨n.toNat,h3.symm⟩;rw[Int.toNat_natCast] at h h1 h2⊢
  by_cases hs:s.size=szN k
  ·rw[if_pos hs] at h
   omega
  ·rw[if_neg hs]
   have HL:=fun w1=>layoutOf_any k ⟨h1,h2⟩ w1
   rcases eight ⟨h1,h2⟩ with rfl|rfl|rfl|rfl|rfl|rfl|rfl|rfl
   all_goals exact codecRead_len _ _ _ _ _ _ _ _ _ _ s w hs HL
def decC (n:Int) (s:ByteArray):Nat:=if patC n s=0 then clsN n.toNat (fldN n.toNat s) (fldE n.toNat s) (fldF n.toNat s) else 0
def decG (n:Int) (s:ByteArray):Bool:=if patC n s=0 then valG n.toNat (fldN n.toNat s) (fldE n.toNat s) (fldF n.toNat s) else false
def decM (n:Int) (s:ByteArray):Nat:=if patC n s=0 then valM n.toNat (fldN n.toNat s) (fldE n.toNat s) (fldF n.toNat s) else 0
def decP (n:Int) (s:ByteArray):Int:=if patC n s=0 then valP n.toNat (fldN n.toNat s) (fldE n.toNat s) (fldF n.toNat s) else 0
theorem decode_any (n:Int) (s:ByteArray) (w:World):Calls Tryz.prog 43 #[yi n,.string s] w (DecRes w ((decC n s:Nat):Int) (decG n s) (decM n s) (decP n s) (patC n s)):=by
 unfold decC decG decM decP
 by_cases h:patC n s=0
 ·rw[if_pos h,if_pos h,if_pos h,if_pos h]
  have hf:famC n≠0:=fun hf=>by
   unfold patC at h;rw[if_pos hf] at h;omega
  obtain⟨h1,h2,h3⟩:=famC_in hf;have HR:=fun w1=>codecRead_ok n s w1 h
  have HV:=fun w1=>lvalue_any n.toNat ⟨h1,h2⟩ (fldN n.toNat s) (fldE n.toNat s) (fldF n.toNat s) w1 (fldF_small ⟨h1,h2⟩ s) (fldE_small ⟨h1,h2⟩ s)
  rw[h];generalize n.toNat=k at*;generalize clsN k (fldN k s) (fldE k s) (fldF k s)=c at*;generalize valG k (fldN k s) (fldE k s) (fldF k s)=g at*;generalize valM k (fldN k s) (fldE k s) (fldF k s)=m at*;generalize valP k (fldN k s) (fldE k s) (fldF k s)=p at*;generalize fldN k s=ng at*;generalize fldE k s=e at*;generalize fldF k s=f at*
  rcases eight ⟨h1,h2⟩ with rfl|rfl|rfl|rfl|rfl|rfl|rfl|rfl
  all_goals exact decode_W _ _ _ _ _ _ _ _ _ _ ng e f _ _ _ _ s w HR HV
 ·rw[if_neg h,if_neg h,if_neg h,if_neg h]
  exact decode_err n _ h s w (fun w1=>codecRead_bad n s w1 h)
end Go.Proofs.YtnhackdjplppjaaGreatDoor
namespace Go.Proofs.YtnhackdjplppjaaGreatDoor
open Go.RowKit
theorem xload {P:Program} {o:Oper} {a:Act} {w:World} (t:TypeId) (x:Operand) (ho:o.op= .load t x) (b i:Nat) (hx:a.eval x= .pointer (some ⟨b,i,none⟩)) (v:Value) (d:TypeDesc) (hu:P.underlying t=some d) (hd:d.isRow=false) (hc:w.cell? ⟨b,i,none⟩=some v):(execOp a.eval o).run P w= .ok (.value v) w:=by
 have hagg:(isAgg t).run P w= .ok false w:=by
  unfold isAgg;rw[Sem.run_bind,run_underlying hu w]
  cases d<;>simp_all
 have hl:(loadVar t ⟨b,i,none⟩).run P w= .ok v w:=by
  simp[loadVar,Sem.run_bind,hagg,hc]
 unfold execOp;simp[ho,hx,Instr.loadAt,Instr.sureAddr,hl]
theorem xrow {P:Program} {o:Oper} {a:Act} {w:World} (t:TypeId) (x:Operand) (ho:o.op= .load t x) (b i:Nat) (hx:a.eval x= .pointer (some ⟨b,i,none⟩)) (cs:List Value) (d:TypeDesc) (hr:w.rangeAt b i cs) (hu:P.underlying t=some d) (hd:d.isRow=true) (hi:(P.info? t).map (·.size)=some cs.length):(execOp a.eval o).run P w= .ok (.value (.agg cs.toArray)) w:=by
 unfold execOp;simp only[ho,hx];have:=run_loadAt_mid (P:=P) w b i t cs d hr hu hd hi;simp[this]
theorem there_of {w:World} {b:Nat} {ty:TypeId} {vs:List Value} (h:LocE w b ty vs):w.there b 0 vs.length:=fun j hj=>by
 have:=h.cell j (List.getElem?_eq_getElem hj);have hf:=h.free j;simp[this,hf]
end Go.Proofs.YtnhackdjplppjaaGreatDoor
namespace Go.Proofs.YtnhackdjplppjaaGreatDoor
open Go.RowKit
def shortT (t:Trip):Trip×Int:=
 if 1200< (Dg.dg 4294967296 (bare t).n).length then(⟨false,0,0⟩,2) else if(bare t).e< -20000∨20000< (bare t).e then(⟨false,0,0⟩,3) else(bare t,0)
def DAns (w:World) (r:Trip×Int) (e:Ending) (w':World):Prop:=
 ∃s,e= .returned (.tuple #[ydV r.1.s s r.1.e,yi r.2])∧Own w' w.heap.size 141 .u32 s (Dg.dg 4294967296 r.1.n)∧Below w.heap.size w w'
theorem Loc.apart {w:World} {b c:Nat} {v0 v1 v2:Value} (h:Loc w b v0 v1 v2) (hne:c≠b) (x0 x1 x2:Value):
  Loc (((w.setCell ⟨c,0,none⟩ x0).setCell ⟨c,1,none⟩ x1).setCell ⟨c,2,none⟩ x2) b v0 v1 v2:=by
 obtain⟨hl,⟨c0,c1,c2⟩,f0,f1,f2⟩:=h;refine⟨by simpa using hl,⟨?_, ?_, ?_⟩,by simpa using f0,by simpa using f1,by simpa using f2⟩
 ·rw[World.cell?_setCell_other (h:=by simp),World.cell?_setCell_other (h:=by simp),World.cell?_setCell_other (h:=by simp)];exact c0
 ·rw[World.cell?_setCell_other (h:=by simp),World.cell?_setCell_other (h:=by simp),World.cell?_setCell_other (h:=by simp)];exact c1
 ·rw[World.cell?_setCell_other (h:=by simp),World.cell?_setCell_other (h:=by simp),World.cell?_setCell_other (h:=by simp)];exact c2
theorem below_set3 {B b:Nat} {w w1:World} (h:Below B w w1) (hb:B≤b) (x0 x1 x2:Value):Below B w (((w1.setCell ⟨b,0,none⟩ x0).setCell ⟨b,1,none⟩ x1).setCell ⟨b,2,none⟩ x2):=
 ((h.setCell (p:=⟨b,0,none⟩) hb x0).setCell (p:=⟨b,1,none⟩) hb x1).setCell (p:=⟨b,2,none⟩) hb x2
set_option maxHeartbeats 1600000 in
theorem dshort_any (v:Value) (t:Trip) (w:World) (hv:Dv w v t) (hL:(Dg.dg 4294967296 t.n).length≤500000) (he: -1000000≤t.e∧t.e≤1000000) (hT:Tab w) (htz:tz t.n≤1000000):
  Calls Tryz.prog 105 #[v] w (DAns w (shortT t)):=by
 have HB:Hid (∀w1,Below w.heap.size w w1→Calls Tryz.prog 161 #[v] w1 (DRes w1 (bare t))):=fun w1 b1=>dbare_any v t w1 (hv.later b1) hL he (hT.later b1) htz
 obtain⟨s0,rfl,hr⟩:=hv;obtain⟨ao,ca,rfl⟩:=hr.shape;obtain⟨ts,n,e⟩:=t;simp only at hr hL he htz⊢HB;obtain⟨m,hm⟩: ∃m,(Dg.dg 4294967296 n).length=m:=⟨_,rfl⟩;rw[hm] at HB⊢;obtain⟨⟨bs,bn,be⟩,hbt⟩: ∃bt,bare ⟨ts,n,e⟩=bt:=⟨_,rfl⟩;unfold shortT;rw[hbt] at HB⊢;simp only at HB⊢;clear hbt hm hr hL he htz hT;have l1:=(loc_new w (.bool ts) (.slice ao m ca) (yi e) 96).later (below_alloc _ (.cells (ydL false (.slice none 0 0) 0).toArray 82));have l2:=loc_new (w.alloc (.cells (ydL ts (.slice ao m ca) e).toArray 96)) (.bool false) (.slice none 0 0) (yi 0) 82;have bA:=below_trans (below_alloc w (.cells (ydL ts (.slice ao m ca) e).toArray 96)) (below_alloc _ (.cells (ydL false (.slice none 0 0) 0).toArray 82));rw[World.size_alloc] at l2
 by_cases h1:1200< (Dg.dg 4294967296 bn).length
 ·rw[if_pos h1]
  go_enter Tryz.func105,Tryz.ntmps105
  go_wp2_with fail
  refine(HB.out _ bA).mono ?_;rintro x w1 ⟨s,rfl,own1,b1⟩;have l1:=l1.later b1;have l2:=l2.later b1;have b01:=below_trans bA b1;rw[World.size_alloc,World.size_alloc] at own1;obtain⟨so,sc,hs⟩:=own1.rd.shape;subst hs;obtain⟨hl1,⟨c0,c1,c2⟩,f0,f1,f2⟩:=id l1;obtain⟨hl2,⟨d0,d1,d2⟩,k0,k1,k2⟩:=id l2;clear bA b1 HB
  go_wp2
  obtain⟨-,⟨g0,g1,g2⟩,-⟩:=loc_set (l2.apart (c:=w.heap.size) (by omega) (.bool bs) (.slice so (Dg.dg 4294967296 bn).length sc) (yi be)) (.bool false) (.slice none 0 0) (yi 0);have b2:=below_set3 (below_set3 b01 (Nat.le_refl _) (.bool bs) (.slice so (Dg.dg 4294967296 bn).length sc) (yi be)) (show w.heap.size≤w.heap.size+1 by omega) (.bool false) (.slice none 0 0) (yi 0)
  refine bodyPost_ret (v:= .tuple #[.agg #[(.bool false),(.slice none 0 0),(yi 0)],yi 2]) (by simp[results,Tryz.results105,go_sem,g0,g1,g2]) rfl ?_;exact⟨_,rfl,own_nil _ _ _ _,b2⟩
 ·rw[if_neg h1]
  by_cases h2:be< -20000
  ·rw[if_pos (Or.inl h2)]
   go_enter Tryz.func105,Tryz.ntmps105
   go_wp2_with fail
   refine(HB.out _ bA).mono ?_;rintro x w1 ⟨s,rfl,own1,b1⟩;have l1:=l1.later b1;have l2:=l2.later b1;have b01:=below_trans bA b1;rw[World.size_alloc,World.size_alloc] at own1;obtain⟨so,sc,hs⟩:=own1.rd.shape;subst hs;obtain⟨hl1,⟨c0,c1,c2⟩,f0,f1,f2⟩:=id l1;obtain⟨hl2,⟨d0,d1,d2⟩,k0,k1,k2⟩:=id l2;clear bA b1 HB
   go_wp2
   obtain⟨-,⟨g0,g1,g2⟩,-⟩:=loc_set (l2.apart (c:=w.heap.size) (by omega) (.bool bs) (.slice so (Dg.dg 4294967296 bn).length sc) (yi be)) (.bool false) (.slice none 0 0) (yi 0);have b2:=below_set3 (below_set3 b01 (Nat.le_refl _) (.bool bs) (.slice so (Dg.dg 4294967296 bn).length sc) (yi be)) (show w.heap.size≤w.heap.size+1 by omega) (.bool false) (.slice none 0 0) (yi 0)
   refine bodyPost_ret (v:= .tuple #[.agg #[(.bool false),(.slice none 0 0),(yi 0)],yi 3]) (by simp[results,Tryz.results105,go_sem,g0,g1,g2]) rfl ?_;exact⟨_,rfl,own_nil _ _ _ _,b2⟩
  ·by_cases h3:20000<be
   ·rw[if_pos (Or.inr h3)]
    go_enter Tryz.func105,Tryz.ntmps105
    go_wp2_with fail
    refine(HB.out _ bA).mono ?_;rintro x w1 ⟨s,rfl,own1,b1⟩;have l1:=l1.later b1;have l2:=l2.later b1;have b01:=below_trans bA b1;rw[World.size_alloc,World.size_alloc] at own1;obtain⟨so,sc,hs⟩:=own1.rd.shape;subst hs;obtain⟨hl1,⟨c0,c1,c2⟩,f0,f1,f2⟩:=id l1;obtain⟨hl2,⟨d0,d1,d2⟩,k0,k1,k2⟩:=id l2;clear bA b1 HB
    go_wp2
    obtain⟨-,⟨g0,g1,g2⟩,-⟩:=loc_set (l2.apart (c:=w.heap.size) (by omega) (.bool bs) (.slice so (Dg.dg 4294967296 bn).length sc) (yi be)) (.bool false) (.slice none 0 0) (yi 0);have b2:=below_set3 (below_set3 b01 (Nat.le_refl _) (.bool bs) (.slice so (Dg.dg 4294967296 bn).length sc) (yi be)) (show w.heap.size≤w.heap.size+1 by omega) (.bool false) (.slice none 0 0) (yi 0)
    refine bodyPost_ret (v:= .tuple #[.agg #[(.bool false),(.slice none 0 0),(yi 0)],yi 3]) (by simp[results,Tryz.results105,go_sem,g0,g1,g2]) rfl ?_;exact⟨_,rfl,own_nil _ _ _ _,b2⟩
   ·rw[if_neg (by omega)]
    go_enter Tryz.func105,Tryz.ntmps105
    go_wp2_with fail
    refine(HB.out _ bA).mono ?_;rintro x w1 ⟨s,rfl,own1,b1⟩;have l1:=l1.later b1;have l2:=l2.later b1;have b01:=below_trans bA b1;rw[World.size_alloc,World.size_alloc] at own1;obtain⟨so,sc,hs⟩:=own1.rd.shape;subst hs;obtain⟨hl1,⟨c0,c1,c2⟩,f0,f1,f2⟩:=id l1;obtain⟨hl2,⟨d0,d1,d2⟩,k0,k1,k2⟩:=id l2;clear bA b1 HB
    go_wp2
    obtain⟨-,⟨g0,g1,g2⟩,-⟩:=loc_set (l2.apart (c:=w.heap.size) (by omega) (.bool bs) (.slice so (Dg.dg 4294967296 bn).length sc) (yi be)) (.bool bs) (.slice so (Dg.dg 4294967296 bn).length sc) (yi be);have own2:=(own1.apart3 (b:=w.heap.size) (by omega) (.bool bs) (.slice so (Dg.dg 4294967296 bn).length sc) (yi be)).apart3 (b:=w.heap.size+1) (by omega) (.bool bs) (.slice so (Dg.dg 4294967296 bn).length sc) (yi be);have b2:=below_set3 (below_set3 b01 (Nat.le_refl _) (.bool bs) (.slice so (Dg.dg 4294967296 bn).length sc) (yi be)) (show w.heap.size≤w.heap.size+1 by omega) (.bool bs) (.slice so (Dg.dg 4294967296 bn).length sc) (yi be)
    refine bodyPost_ret (v:= .tuple #[.agg #[(.bool bs),(.slice so (Dg.dg 4294967296 bn).length sc),(yi be)],yi 0]) (by simp[results,Tryz.results105,go_sem,g0,g1,g2]) rfl ?_;exact⟨_,rfl,own2.lower (by omega),b2⟩
end Go.Proofs.YtnhackdjplppjaaGreatDoor

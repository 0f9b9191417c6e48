/-
  Texts laid together: Co18, Ex, Dy3.
-/
import Derived.Laws.ResultCell
import Derived.Test.YtbdokgamhinajaaGreatDoorSj08
set_option maxRecDepth 100000
set_option maxHeartbeats 3200000
namespace Go.Proofs.YtbdokgamhinajaaGreatDoor
open _root_.Go.Proofs.Tryz
open Go.RowKit
def eP (w:World)(c:Int)(ng:Bool)(m:Nat)(p:Int)(er:Int)(z:Ending)(w':World):Prop:=
 ∃v,z= .returned (.tuple #[yvV c ng v p,yi er])∧Rd w' .u32 v (Dg.dg 4294967296 m)∧yB w w'
theorem Xt (n:Int)(R sz ex:Nat)(D L G fam:Int)(gr:Bool)(F:Nat)(ng:Bool)(e f:Nat)(c:Int)(gg:Bool)(m:Nat)(p:Int)(s:ByteArray)(w:World)
  (HR:yJ 167 #[yi n,.string s] (.tuple #[ylV (R:Int) D L G gr (sz:Int) (ex:Int) fam F,yfV ng (e:Int) (f:Int),yi 0]))
  (HV: ∀w1,yC 168 #[ylV (R:Int) D L G gr (sz:Int) (ex:Int) fam F,yfV ng (e:Int) (f:Int)] w1 (iT w1 c gg m p)):
  yC 141 #[yi n,.string s] w (eP w c gg m p 0):=by
 have hsf:=cD;have HR':Hid _:=HR;have HV':Hid _:=HV;have v0:=ah w (yvL 0 false (.slice none 0 0) 0) 100;have b0:=af w (.cells (yvA 0 false (.slice none 0 0) 0) 100);clear HR HV
 go_enter func141,ntmps141
 go_wp2_with fail
 refine(HR'.out _).mono ?_;rintro z w1 ⟨rfl,b1⟩;have bl:=af w1 (.cells (ylA (R:Int) D L G gr (sz:Int) (ex:Int) fam F) 170);have bf:=af (w1.alloc (.cells (ylA (R:Int) D L G gr (sz:Int) (ex:Int) fam F) 170)) (.cells (yfA ng (e:Int) (f:Int)) 208);have v2:=((v0.l b1).l bl).l bf;have b2:=aa (aa (aa b0 b1) bl) bf
 go_wp2_with fail
 refine(HV'.out _).mono ?_;rintro z w3 ⟨v,rfl,r3,b3⟩;obtain⟨vo,vc,hv⟩:=r3.shape;subst hv;have v3:=v2.l b3;have b03:=aa b2 b3;have ov:=cq r3 (Dg.norm_dg _ _ (by omega)) v3 (fun x hx n hn=>by simp at hx;rcases hx with rfl|rfl|rfl|rfl<;>simp)
 have bu:=(((ag w3 w.heap.size 0 (yi c)).trans (ag _ w.heap.size 1 (.bool gg))).trans (ag _ w.heap.size 2 (.slice vo (Dg.dg 4294967296 m).length vc))).trans (ag _ w.heap.size 3 (yi p));have cR:au ((((w3.setCell ⟨w.heap.size,0,none⟩ (yi c)).setCell ⟨w.heap.size,1,none⟩ (.bool gg)).setCell ⟨w.heap.size,2,none⟩ (.slice vo (Dg.dg 4294967296 m).length vc)).setCell ⟨w.heap.size,3,none⟩ (yi p)) w.heap.size 100 (yvL c gg (.slice vo (Dg.dg 4294967296 m).length vc) p):=((((v3.set 0 (yi c)).set 1 (.bool gg)).set 2 (.slice vo (Dg.dg 4294967296 m).length vc)).set 3 (yi p));have bR:=bu.below b03 (Nat.le_refl _);have rR:=bu.rd r3 ov;have hl:=run_loadVar_mid (P:=Tryz.prog) _ w.heap.size 0 100 (yvL c gg (.slice vo (Dg.dg 4294967296 m).length vc) p) _ cR.range underlying100 rfl (by kernel_rfl);have HH:Hid (_∧_∧_):=⟨hl,rR,bR⟩;obtain⟨x0,x1,x2,x3⟩:=v3.cs4;have j0:=v3.f 0;have j1:=v3.f 1;have j2:=v3.f 2;have j3:=v3.f 3;clear hl bR rR cR bu ov v3 b03 r3 b3 v2 b2 bl bf b1 v0 b0
 go_wp2
 obtain⟨hl,rR,bR⟩:=HH.out;exact bodyPost_ret (aj results141 rfl rfl hl) rfl ⟨_,rfl,rR,bR⟩
theorem Pk (n:Int)(er:Int)(her:er≠0)(s:ByteArray)(w:World)
  (HR:yJ 167 #[yi n,.string s] (.tuple #[yzV 0 0 0 0 false 0 0 0,yfV false 0 0,yi er])):
  yC 141 #[yi n,.string s] w (eP w 0 false 0 0 er):=by
 have hsn:=gn;have HR':Hid _:=HR;have v0:=ah w (yvL 0 false (.slice none 0 0) 0) 100;have b0:=af w (.cells (yvA 0 false (.slice none 0 0) 0) 100);have he:(er==0)=false:=by simpa using her
 clear HR her
 go_enter func141,ntmps141
 go_wp2_with fail
 refine(HR'.out _).mono ?_;rintro z w1 ⟨rfl,b1⟩;have bl:=af w1 (.cells (yzA 0 0 0 0 false 0 0 0) 170);have bf:=af (w1.alloc (.cells (yzA 0 0 0 0 false 0 0 0) 170)) (.cells (yfA false 0 0) 208);have v2:=((v0.l b1).l bl).l bf;have b2:=aa (aa (aa b0 b1) bl) bf;have bu:=(((ag ((w1.alloc (.cells (yzA 0 0 0 0 false 0 0 0) 170)).alloc (.cells (yfA false 0 0) 208)) w.heap.size 0 (yi 0)).trans (ag _ w.heap.size 1 (.bool false))).trans (ag _ w.heap.size 2 (.slice none 0 0))).trans (ag _ w.heap.size 3 (yi 0));have cR:au ((((((w1.alloc (.cells (yzA 0 0 0 0 false 0 0 0) 170)).alloc (.cells (yfA false 0 0) 208)).setCell ⟨w.heap.size,0,none⟩ (yi 0)).setCell ⟨w.heap.size,1,none⟩ (.bool false)).setCell ⟨w.heap.size,2,none⟩ (.slice none 0 0)).setCell ⟨w.heap.size,3,none⟩ (yi 0)) w.heap.size 100 (yvL 0 false (.slice none 0 0) 0):=((((v2.set 0 (yi 0)).set 1 (.bool false)).set 2 (.slice none 0 0)).set 3 (yi 0));have bR:=bu.below b2 (Nat.le_refl _);have hl:=run_loadVar_mid (P:=Tryz.prog) _ w.heap.size 0 100 (yvL 0 false (.slice none 0 0) 0) _ cR.range underlying100 rfl (by kernel_rfl);have HH:Hid (_∧_):=⟨hl,bR⟩;have hnA:w1.heap.size≠w.heap.size:=Nat.ne_of_gt (v0.l b1).lt;have hnB:w1.heap.size+1≠w.heap.size:=by have:=(v0.l b1).lt;omega
 obtain⟨x0,x1,x2,x3⟩:=v2.cs4;have j0:=v2.f 0;have j1:=v2.f 1;have j2:=v2.f 2;have j3:=v2.f 3;clear hl bR cR bu v2 b2 bl bf b1 v0 b0
 go_wp2
 obtain⟨hl,bR⟩:=HH.out;exact bodyPost_ret (aj results141 rfl rfl hl) rfl ⟨_,rfl,aN _ _,bR⟩
def dF (n:Int)(s:ByteArray):Int:=if dK n=0 then 6 else if s.size=szN n.toNat then 0 else 1
theorem fF {n:Int}(h:dK n≠0):1≤n.toNat∧n.toNat≤8∧((n.toNat:Nat):Int)=n:=by
 unfold dK at h
 by_cases c:n<1∨8<n
 ·rw[if_pos c] at h
  exact absurd rfl h
 ·omega
theorem uM (n:Int)(s:ByteArray)(w:World)(h:dF n s=0):
  yC 167 #[yi n,.string s] w (yR w (.tuple #[.agg (tS n.toNat).toArray,yfV (aZ n.toNat s) ((aR n.toNat s:Nat):Int) ((aU n.toNat s:Nat):Int),yi 0])):=by
 unfold dF at h
 by_cases hf:dK n=0
 ·rw[if_pos hf] at h
  omega
 ·rw[if_neg hf] at h
  obtain⟨h1,h2,h3⟩:=fF hf;obtain⟨k,rfl⟩: ∃k:Nat,n=(k:Int):=⟨n.toNat,h3.symm⟩;rw[Int.toNat_natCast] at h h1 h2⊢;have hs:s.size=szN k:=by
   by_cases c:s.size=szN k
   ·exact c
   ·rw[if_neg c] at h
    omega
  have HL:=fun w1=>pU k ⟨h1,h2⟩ w1
  have HR:=fun w1=>VY k ⟨h1,h2⟩ s w1 hs
  generalize aZ k s=ng at*;generalize aR k s=e at*;generalize aU k s=f at*
  rcases bO ⟨h1,h2⟩ with rfl|rfl|rfl|rfl|rfl|rfl|rfl|rfl
  all_goals exact N7 _ _ _ _ _ _ _ _ _ _ ng e f s w hs HL HR
theorem tA (n:Int)(s:ByteArray)(w:World)(h:dF n s≠0):
  yC 167 #[yi n,.string s] w (yR w (.tuple #[yzV 0 0 0 0 false 0 0 0,yfV false 0 0,yi (dF n s)])):=by
 unfold dF at h⊢
 by_cases hf:dK n=0
 ·rw[if_pos hf]
  exact GA n s w (fun w1=>lR n w1 hf)
 ·rw[if_neg hf] at h⊢
  obtain⟨h1,h2,h3⟩:=fF hf;obtain⟨k,rfl⟩: ∃k:Nat,n=(k:Int):=⟨n.toNat,h3.symm⟩;rw[Int.toNat_natCast] at h h1 h2⊢
  by_cases hs:s.size=szN k
  ·rw[if_pos hs] at h
   omega
  ·rw[if_neg hs]
   have HL:=fun w1=>pU k ⟨h1,h2⟩ w1
   rcases bO ⟨h1,h2⟩ with rfl|rfl|rfl|rfl|rfl|rfl|rfl|rfl
   all_goals exact H6 _ _ _ _ _ _ _ _ _ _ s w hs HL
def bM (n:Int)(s:ByteArray):Nat:=if dF n s=0 then dh n.toNat (aZ n.toNat s) (aR n.toNat s) (aU n.toNat s) else 0
def dz (n:Int)(s:ByteArray):Bool:=if dF n s=0 then kt n.toNat (aZ n.toNat s) (aR n.toNat s) (aU n.toNat s) else false
def gJ (n:Int)(s:ByteArray):Nat:=if dF n s=0 then ge n.toNat (aZ n.toNat s) (aR n.toNat s) (aU n.toNat s) else 0
def iF (n:Int)(s:ByteArray):Int:=if dF n s=0 then gw n.toNat (aZ n.toNat s) (aR n.toNat s) (aU n.toNat s) else 0
theorem fR (n:Int)(s:ByteArray)(w:World):yC 141 #[yi n,.string s] w (eP w ((bM n s:Nat):Int) (dz n s) (gJ n s) (iF n s) (dF n s)):=by
 unfold bM dz gJ iF
 by_cases h:dF n s=0
 ·rw[if_pos h,if_pos h,if_pos h,if_pos h]
  have hf:dK n≠0:=fun hf=>by
   unfold dF at h;rw[if_pos hf] at h;omega
  obtain⟨h1,h2,h3⟩:=fF hf;have HR:=fun w1=>uM n s w1 h
  have HV:=fun w1=>Gz n.toNat ⟨h1,h2⟩ (aZ n.toNat s) (aR n.toNat s) (aU n.toNat s) w1 (vW ⟨h1,h2⟩ s) (GM ⟨h1,h2⟩ s)
  rw[h];generalize n.toNat=k at*;generalize dh k (aZ k s) (aR k s) (aU k s)=c at*;generalize kt k (aZ k s) (aR k s) (aU k s)=g at*;generalize ge k (aZ k s) (aR k s) (aU k s)=m at*;generalize gw k (aZ k s) (aR k s) (aU k s)=p at*;generalize aZ k s=ng at*;generalize aR k s=e at*;generalize aU k s=f at*
  rcases bO ⟨h1,h2⟩ with rfl|rfl|rfl|rfl|rfl|rfl|rfl|rfl
  all_goals exact Xt _ _ _ _ _ _ _ _ _ _ ng e f _ _ _ _ s w HR HV
 ·rw[if_neg h,if_neg h,if_neg h,if_neg h]
  exact Pk n _ h s w (fun w1=>tA n s w1 h)
theorem gU {P:Program}{o:Oper}{a:Act}{w:World}(t:TypeId)(x:Operand)(ho:o.op= .load t x)(b i:Nat)(hx:a.eval x= .pointer (some ⟨b,i,none⟩))(v:Value)(d:TypeDesc)(hu:P.underlying t=some d)(hd:d.isRow=false)(hc:w.cell? ⟨b,i,none⟩=some v):(execOp a.eval o).run P w= .ok (.value v) w:=by
 have hagg:(isAgg t).run P w= .ok false w:=by
  unfold isAgg;rw[Sem.run_bind,run_underlying hu w]
  cases d<;>simp_all
 have hl:(loadVar t ⟨b,i,none⟩).run P w= .ok v w:=by
  simp[loadVar,Sem.run_bind,hagg,hc]
 unfold execOp;simp[ho,hx,Instr.loadAt,Instr.sureAddr,hl]
theorem fy {P:Program}{o:Oper}{a:Act}{w:World}(t:TypeId)(x:Operand)(ho:o.op= .load t x)(b i:Nat)(hx:a.eval x= .pointer (some ⟨b,i,none⟩))(cs:List Value)(d:TypeDesc)(hr:w.rangeAt b i cs)(hu:P.underlying t=some d)(hd:d.isRow=true)(hi:(P.info? t).map (·.size)=some cs.length):(execOp a.eval o).run P w= .ok (.value (.agg cs.toArray)) w:=by
 unfold execOp;simp only[ho,hx];have:=run_loadAt_mid (P:=P) w b i t cs d hr hu hd hi;simp[this]
theorem dD {w:World}{b:Nat}{ty:TypeId}{vs:List Value}(h:au w b ty vs):w.there b 0 vs.length:=fun j hj=>by
 have:=h.c j (List.getElem?_eq_getElem hj);have hf:=h.f j;simp[this,hf]
def bU (t:ak):ak×Int:=
 if 1200< (Dg.dg 4294967296 (bare t).n).length then(⟨false,0,0⟩,2) else if(bare t).e< -20000∨20000< (bare t).e then(⟨false,0,0⟩,3) else(bare t,0)
def gR (w:World)(r:ak×Int)(e:Ending)(w':World):Prop:=
 ∃s,e= .returned (.tuple #[ydV r.1.s s r.1.e,yi r.2])∧Own w' w.heap.size 148 .u32 s (Dg.dg 4294967296 r.1.n)∧yB w w'
theorem Loc.apart {w:World}{b c:Nat}{v0 v1 v2:Value}(h:Loc w b v0 v1 v2)(hne:c≠b)(x0 x1 x2:Value):
  Loc (((w.setCell ⟨c,0,none⟩ x0).setCell ⟨c,1,none⟩ x1).setCell ⟨c,2,none⟩ x2) b v0 v1 v2:=by
 obtain⟨hl,⟨c0,c1,c2⟩,f0,f1,f2⟩:=h;refine⟨by simpa using hl,⟨?_, ?_, ?_⟩,by simpa using f0,by simpa using f1,by simpa using f2⟩
 ·rw[World.cell?_setCell_other (h:=by simp),World.cell?_setCell_other (h:=by simp),World.cell?_setCell_other (h:=by simp)];exact c0
 ·rw[World.cell?_setCell_other (h:=by simp),World.cell?_setCell_other (h:=by simp),World.cell?_setCell_other (h:=by simp)];exact c1
 ·rw[World.cell?_setCell_other (h:=by simp),World.cell?_setCell_other (h:=by simp),World.cell?_setCell_other (h:=by simp)];exact c2
theorem am {B b:Nat}{w w1:World}(h:Below B w w1)(hb:B≤b)(x0 x1 x2:Value):Below B w (((w1.setCell ⟨b,0,none⟩ x0).setCell ⟨b,1,none⟩ x1).setCell ⟨b,2,none⟩ x2):=
 ((h.setCell (p:=⟨b,0,none⟩) hb x0).setCell (p:=⟨b,1,none⟩) hb x1).setCell (p:=⟨b,2,none⟩) hb x2
theorem kL (v:Value)(t:ak)(w:World)(hv:Dv w v t)(hL:(Dg.dg 4294967296 t.n).length≤500000)(he: -1000000≤t.e∧t.e≤1000000)(hT:Tab w)(htz:tz t.n≤1000000):
  yC 186 #[v] w (gR w (bU t)):=by
 have HB:Hid (∀w1,yB w w1→yC 201 #[v] w1 (jN w1 (bare t))):=fun w1 b1=>II v t w1 (hv.l b1) hL he (hT.l b1) htz
 obtain⟨s0,rfl,hr⟩:=hv;obtain⟨ao,ca,rfl⟩:=hr.shape;obtain⟨ts,n,e⟩:=t;simp only at hr hL he htz⊢HB;obtain⟨m,hm⟩: ∃m,(Dg.dg 4294967296 n).length=m:=⟨_,rfl⟩;rw[hm] at HB⊢;obtain⟨⟨bs,bn,be⟩,hbt⟩: ∃bt,bare ⟨ts,n,e⟩=bt:=⟨_,rfl⟩;unfold bU;rw[hbt] at HB⊢;simp only at HB⊢;clear hbt hm hr hL he htz hT;have l1:=(aA w (.bool ts) (.slice ao m ca) (yi e) 74).l (af _ (.cells (ydA false (.slice none 0 0) 0) 72));have l2:=aA (w.alloc (.cells (ydA ts (.slice ao m ca) e) 74)) (.bool false) (.slice none 0 0) (yi 0) 72;have bA:=aa (af w (.cells (ydA ts (.slice ao m ca) e) 74)) (af _ (.cells (ydA false (.slice none 0 0) 0) 72));rw[World.size_alloc] at l2
 by_cases h1:1200< (Dg.dg 4294967296 bn).length
 ·rw[if_pos h1]
  go_enter func186,ntmps186
  go_wp2_with fail
  refine(HB.out _ bA).mono ?_;rintro x w1 ⟨s,rfl,own1,b1⟩;have l1:=l1.l b1;have l2:=l2.l b1;have b01:=aa bA b1;rw[World.size_alloc,World.size_alloc] at own1;obtain⟨so,sc,hs⟩:=own1.rd.shape;subst hs;obtain⟨hl1,⟨c0,c1,c2⟩,f0,f1,f2⟩:=id l1;obtain⟨hl2,⟨d0,d1,d2⟩,k0,k1,k2⟩:=id l2;clear bA b1 HB
  go_wp2
  obtain⟨-,⟨g0,g1,g2⟩,-⟩:=aD (l2.apart (c:=w.heap.size) (by omega) (.bool bs) (.slice so (Dg.dg 4294967296 bn).length sc) (yi be)) (.bool false) (.slice none 0 0) (yi 0);have b2:=am (am b01 (Nat.le_refl _) (.bool bs) (.slice so (Dg.dg 4294967296 bn).length sc) (yi be)) (show w.heap.size≤w.heap.size+1 by omega) (.bool false) (.slice none 0 0) (yi 0)
  refine bodyPost_ret (v:= .tuple #[.agg #[(.bool false),(.slice none 0 0),(yi 0)],yi 2]) (by simp[results,results186,go_sem,g0,g1,g2]) rfl ?_;exact⟨_,rfl,aQ _ _ _ _,b2⟩
 ·rw[if_neg h1]
  by_cases h2:be< -20000
  ·rw[if_pos (Or.inl h2)]
   go_enter func186,ntmps186
   go_wp2_with fail
   refine(HB.out _ bA).mono ?_;rintro x w1 ⟨s,rfl,own1,b1⟩;have l1:=l1.l b1;have l2:=l2.l b1;have b01:=aa bA b1;rw[World.size_alloc,World.size_alloc] at own1;obtain⟨so,sc,hs⟩:=own1.rd.shape;subst hs;obtain⟨hl1,⟨c0,c1,c2⟩,f0,f1,f2⟩:=id l1;obtain⟨hl2,⟨d0,d1,d2⟩,k0,k1,k2⟩:=id l2;clear bA b1 HB
   go_wp2
   obtain⟨-,⟨g0,g1,g2⟩,-⟩:=aD (l2.apart (c:=w.heap.size) (by omega) (.bool bs) (.slice so (Dg.dg 4294967296 bn).length sc) (yi be)) (.bool false) (.slice none 0 0) (yi 0);have b2:=am (am b01 (Nat.le_refl _) (.bool bs) (.slice so (Dg.dg 4294967296 bn).length sc) (yi be)) (show w.heap.size≤w.heap.size+1 by omega) (.bool false) (.slice none 0 0) (yi 0)
   refine bodyPost_ret (v:= .tuple #[.agg #[(.bool false),(.slice none 0 0),(yi 0)],yi 3]) (by simp[results,results186,go_sem,g0,g1,g2]) rfl ?_;exact⟨_,rfl,aQ _ _ _ _,b2⟩
  ·by_cases h3:20000<be
   ·rw[if_pos (Or.inr h3)]
    go_enter func186,ntmps186
    go_wp2_with fail
    refine(HB.out _ bA).mono ?_;rintro x w1 ⟨s,rfl,own1,b1⟩;have l1:=l1.l b1;have l2:=l2.l b1;have b01:=aa bA b1;rw[World.size_alloc,World.size_alloc] at own1;obtain⟨so,sc,hs⟩:=own1.rd.shape;subst hs;obtain⟨hl1,⟨c0,c1,c2⟩,f0,f1,f2⟩:=id l1;obtain⟨hl2,⟨d0,d1,d2⟩,k0,k1,k2⟩:=id l2;clear bA b1 HB
    go_wp2
    obtain⟨-,⟨g0,g1,g2⟩,-⟩:=aD (l2.apart (c:=w.heap.size) (by omega) (.bool bs) (.slice so (Dg.dg 4294967296 bn).length sc) (yi be)) (.bool false) (.slice none 0 0) (yi 0);have b2:=am (am b01 (Nat.le_refl _) (.bool bs) (.slice so (Dg.dg 4294967296 bn).length sc) (yi be)) (show w.heap.size≤w.heap.size+1 by omega) (.bool false) (.slice none 0 0) (yi 0)
    refine bodyPost_ret (v:= .tuple #[.agg #[(.bool false),(.slice none 0 0),(yi 0)],yi 3]) (by simp[results,results186,go_sem,g0,g1,g2]) rfl ?_;exact⟨_,rfl,aQ _ _ _ _,b2⟩
   ·rw[if_neg (by omega)]
    go_enter func186,ntmps186
    go_wp2_with fail
    refine(HB.out _ bA).mono ?_;rintro x w1 ⟨s,rfl,own1,b1⟩;have l1:=l1.l b1;have l2:=l2.l b1;have b01:=aa bA b1;rw[World.size_alloc,World.size_alloc] at own1;obtain⟨so,sc,hs⟩:=own1.rd.shape;subst hs;obtain⟨hl1,⟨c0,c1,c2⟩,f0,f1,f2⟩:=id l1;obtain⟨hl2,⟨d0,d1,d2⟩,k0,k1,k2⟩:=id l2;clear bA b1 HB
    go_wp2
    obtain⟨-,⟨g0,g1,g2⟩,-⟩:=aD (l2.apart (c:=w.heap.size) (by omega) (.bool bs) (.slice so (Dg.dg 4294967296 bn).length sc) (yi be)) (.bool bs) (.slice so (Dg.dg 4294967296 bn).length sc) (yi be);have own2:=(own1.apart3 (b:=w.heap.size) (by omega) (.bool bs) (.slice so (Dg.dg 4294967296 bn).length sc) (yi be)).apart3 (b:=w.heap.size+1) (by omega) (.bool bs) (.slice so (Dg.dg 4294967296 bn).length sc) (yi be);have b2:=am (am b01 (Nat.le_refl _) (.bool bs) (.slice so (Dg.dg 4294967296 bn).length sc) (yi be)) (show w.heap.size≤w.heap.size+1 by omega) (.bool bs) (.slice so (Dg.dg 4294967296 bn).length sc) (yi be)
    refine bodyPost_ret (v:= .tuple #[.agg #[(.bool bs),(.slice so (Dg.dg 4294967296 bn).length sc),(yi be)],yi 0]) (by simp[results,results186,go_sem,g0,g1,g2]) rfl ?_;exact⟨_,rfl,own2.lower (by omega),b2⟩
end Go.Proofs.YtbdokgamhinajaaGreatDoor

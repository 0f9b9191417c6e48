/-
  Texts laid together: Dz, Ref6, Dy3, Dr1, Dk1, Aw0, Co15, Dn1, Bm3, BlM, Bm2, Fi6, Ce2, Ar2, Ar4, As8, Cv0, Bl26.
-/
import Derived.Test.YtiakgfmlpdfhdaaDoorSv14
import Derived.Test.YtiakgfmlpdfhdaaDoorSv15
import Derived.Test.YtiakgfmlpdfhdaaDoorSv22
import Derived.Test.YtiakgfmlpdfhdaaDoorSv25
set_option maxRecDepth 100000
set_option maxHeartbeats 1600000
namespace Go.Proofs.YtiakgfmlpdfhdaaDoor
open Go.RowKit
theorem Vd (a b:ak):bare (aG a b)=bare (cO (bare a) (bare b)):=by
 have h1: -((a.e.natAbs+b.e.natAbs:Nat):Int)≤a.e:=by omega
 have h2: -((a.e.natAbs+b.e.natAbs:Nat):Int)≤b.e:=by omega
 refine fH (eS h1 h2) (zy (eL h1) (eL h2)) ?_;rw[dH h1 h2,zx (eL h1) (eL h2),dw h1,dw h2]
theorem nR (a b:ak):bare (aK a b)=bare (aK (bare a) (bare b)):=by
 have h1: -((a.e.natAbs+b.e.natAbs:Nat):Int)≤a.e:=by omega
 have h2: -((a.e.natAbs+b.e.natAbs:Nat):Int)≤b.e:=by omega
 have k1:=eL h1;have k2:=eL h2;refine fH (K:=(a.e.natAbs+b.e.natAbs)+(a.e.natAbs+b.e.natAbs)) ?_ ?_ ?_
 ·unfold aK;simp only;omega
 ·unfold aK;simp only;omega
 ·rw[kr h1 h2,kr k1 k2,dw h1,dw h2]
theorem Ft (va:Value)(xs:List Nat)(n wh pt P Q:Nat)(w:World)(ha:Rd w .i64 va xs)(sa:Dg.Small 65536 xs)(hla:xs.length≤1000000)(hn:n=16*wh+pt)(hpt:pt<16)(hnl:n≤100000000)(hP:P=2^pt)(hQ:Q=2^ (16-pt)):
  yC 53 #[va,yi n] w (cG w (Dg.vl 65536 xs/2^n)):=
 (MD va xs n wh pt P Q w ha sa hla hn hpt hnl hP hQ).mono fun _ _ ⟨v,h1,h2,_,h3⟩=>⟨v,h1,h2,h3⟩
theorem kL (v:Value)(t:ak)(w:World)(hv:Dv w v t)(hL:(Dg.dg 4294967296 t.n).length≤500000)(he: -1000000≤t.e∧t.e≤1000000)(hT:Tab w)(htz:tz t.n≤1000000):
  yC 64 #[v] w (gR w (bU t)):=by
 have HB:Hid (∀w1,yB w w1→yC 84 #[v] w1 (jN w1 (bare t))):=fun w1 b1=>II v t w1 (hv.l b1) hL he (hT.l b1) htz
 obtain⟨s0,rfl,hr⟩:=hv;obtain⟨ao,ca,rfl⟩:=hr.shape;obtain⟨ts,n,e⟩:=t;simp only at hr hL he htz⊢HB;obtain⟨m,hm⟩: ∃m,(Dg.dg 4294967296 n).length=m:=⟨_,rfl⟩;rw[hm] at HB⊢;obtain⟨⟨bs,bn,be⟩,hbt⟩: ∃bt,bare ⟨ts,n,e⟩=bt:=⟨_,rfl⟩;unfold bU;rw[hbt] at HB⊢;simp only at HB⊢;clear hbt hm hr hL he htz hT;have l1:=(aA w (.bool ts) (.slice ao m ca) (yi e) 66).l (af _ (.cells (ydA false yN 0) 25));have l2:=aA (w.alloc (.cells (ydA ts (.slice ao m ca) e) 66)) (.bool false) yN (yi 0) 25;have bA:=aa (af w (.cells (ydA ts (.slice ao m ca) e) 66)) (af _ (.cells (ydA false yN 0) 25));rw[World.size_alloc] at l2
 by_cases h1:1200< (Dg.dg 4294967296 bn).length
 ·rw[if_pos h1]
  go_enter Tryd.func64,Tryd.ntmps64
  go_wp2_with fail
  refine(HB.out _ bA).mono ?_;rintro x w1 ⟨s,rfl,own1,b1⟩;have l1:=l1.l b1;have l2:=l2.l b1;have b01:=aa bA b1;rw[World.size_alloc,World.size_alloc] at own1;obtain⟨so,sc,hs⟩:=own1.rd.shape;subst hs;obtain⟨hl1,⟨c0,c1,c2⟩,f0,f1,f2⟩:=id l1;obtain⟨hl2,⟨d0,d1,d2⟩,k0,k1,k2⟩:=id l2;clear bA b1 HB
  go_wp2
  obtain⟨-,⟨g0,g1,g2⟩,-⟩:=aD (l2.apart (c:=w.heap.size) (by omega) (.bool bs) (yT so bn sc) (yi be)) (.bool false) yN (yi 0);have b2:=am (am b01 (Nat.le_refl _) (.bool bs) (yT so bn sc) (yi be)) (show w.heap.size≤w.heap.size+1 by omega) (.bool false) yN (yi 0)
  refine bodyPost_ret (v:= .tuple #[.agg #[(.bool false),yN,(yi 0)],yi 2]) (by simp[results,Tryd.results64,go_sem,g0,g1,g2]) rfl ?_;exact⟨_,rfl,aQ _ _ _ _,b2⟩
 ·rw[if_neg h1]
  by_cases h2:be< -20000
  ·rw[if_pos (Or.inl h2)]
   go_enter Tryd.func64,Tryd.ntmps64
   go_wp2_with fail
   refine(HB.out _ bA).mono ?_;rintro x w1 ⟨s,rfl,own1,b1⟩;have l1:=l1.l b1;have l2:=l2.l b1;have b01:=aa bA b1;rw[World.size_alloc,World.size_alloc] at own1;obtain⟨so,sc,hs⟩:=own1.rd.shape;subst hs;obtain⟨hl1,⟨c0,c1,c2⟩,f0,f1,f2⟩:=id l1;obtain⟨hl2,⟨d0,d1,d2⟩,k0,k1,k2⟩:=id l2;clear bA b1 HB
   go_wp2
   obtain⟨-,⟨g0,g1,g2⟩,-⟩:=aD (l2.apart (c:=w.heap.size) (by omega) (.bool bs) (yT so bn sc) (yi be)) (.bool false) yN (yi 0);have b2:=am (am b01 (Nat.le_refl _) (.bool bs) (yT so bn sc) (yi be)) (show w.heap.size≤w.heap.size+1 by omega) (.bool false) yN (yi 0)
   refine bodyPost_ret (v:= .tuple #[.agg #[(.bool false),yN,(yi 0)],yi 3]) (by simp[results,Tryd.results64,go_sem,g0,g1,g2]) rfl ?_;exact⟨_,rfl,aQ _ _ _ _,b2⟩
  ·by_cases h3:20000<be
   ·rw[if_pos (Or.inr h3)]
    go_enter Tryd.func64,Tryd.ntmps64
    go_wp2_with fail
    refine(HB.out _ bA).mono ?_;rintro x w1 ⟨s,rfl,own1,b1⟩;have l1:=l1.l b1;have l2:=l2.l b1;have b01:=aa bA b1;rw[World.size_alloc,World.size_alloc] at own1;obtain⟨so,sc,hs⟩:=own1.rd.shape;subst hs;obtain⟨hl1,⟨c0,c1,c2⟩,f0,f1,f2⟩:=id l1;obtain⟨hl2,⟨d0,d1,d2⟩,k0,k1,k2⟩:=id l2;clear bA b1 HB
    go_wp2
    obtain⟨-,⟨g0,g1,g2⟩,-⟩:=aD (l2.apart (c:=w.heap.size) (by omega) (.bool bs) (yT so bn sc) (yi be)) (.bool false) yN (yi 0);have b2:=am (am b01 (Nat.le_refl _) (.bool bs) (yT so bn sc) (yi be)) (show w.heap.size≤w.heap.size+1 by omega) (.bool false) yN (yi 0)
    refine bodyPost_ret (v:= .tuple #[.agg #[(.bool false),yN,(yi 0)],yi 3]) (by simp[results,Tryd.results64,go_sem,g0,g1,g2]) rfl ?_;exact⟨_,rfl,aQ _ _ _ _,b2⟩
   ·rw[if_neg (by omega)]
    go_enter Tryd.func64,Tryd.ntmps64
    go_wp2_with fail
    refine(HB.out _ bA).mono ?_;rintro x w1 ⟨s,rfl,own1,b1⟩;have l1:=l1.l b1;have l2:=l2.l b1;have b01:=aa bA b1;rw[World.size_alloc,World.size_alloc] at own1;obtain⟨so,sc,hs⟩:=own1.rd.shape;subst hs;obtain⟨hl1,⟨c0,c1,c2⟩,f0,f1,f2⟩:=id l1;obtain⟨hl2,⟨d0,d1,d2⟩,k0,k1,k2⟩:=id l2;clear bA b1 HB
    go_wp2
    obtain⟨-,⟨g0,g1,g2⟩,-⟩:=aD (l2.apart (c:=w.heap.size) (by omega) (.bool bs) (yT so bn sc) (yi be)) (.bool bs) (yT so bn sc) (yi be);have own2:=(own1.apart3 (b:=w.heap.size) (by omega) (.bool bs) (yT so bn sc) (yi be)).apart3 (b:=w.heap.size+1) (by omega) (.bool bs) (yT so bn sc) (yi be);have b2:=am (am b01 (Nat.le_refl _) (.bool bs) (yT so bn sc) (yi be)) (show w.heap.size≤w.heap.size+1 by omega) (.bool bs) (yT so bn sc) (yi be)
    refine bodyPost_ret (v:= .tuple #[.agg #[(.bool bs),(yT so bn sc),(yi be)],yi 0]) (by simp[results,Tryd.results64,go_sem,g0,g1,g2]) rfl ?_;exact⟨_,rfl,own2.lower (by omega),b2⟩
theorem iJ (v:Value)(t:ak)(w:World)(hv:Rv w v t)(hL:(Dg.dg 65536 t.n).length≤100000)(he1: -1000000≤t.e)(he2:t.e≤1000000):
  yC 29 #[v] w (dr w (bare t)):=
 (lA v t w hv hL he1 he2).mono fun _ _ h=>h.near
theorem tK {A:ak}{b:Int}{up:Bool}{L:Nat}(h:(Dg.dg 4294967296 A.n).length≤L)(hL:1≤L):(Dg.dg 4294967296 (aY A b up).n).length≤L+1:=by
 unfold aY
 by_cases hc:(bitLen A.n:Int)-b≤((if A.n=0 then 0 else tz A.n:Nat):Int)
 ·rw[if_pos hc]
  omega
 ·rw[if_neg hc]
  show(Dg.dg 4294967296 (A.n/2^ ((bitLen A.n:Int)-b).toNat+(if(up != A.s)=true then 1 else 0))).length≤L+1
  refine Nat.le_trans (aH 4294967296 _ (A.n+1) (by omega) ?_) (RZ A.n 1 L h hL);have:=Nat.div_le_self A.n (2^ ((bitLen A.n:Int)-b).toNat)
  by_cases hu:(up != A.s)=true
  ·rw[if_pos hu];omega
  ·rw[if_neg hu];omega
theorem pi (w:World)(c0:List Value)(t0:TypeId)(c1:List Value)(t1:TypeId)(c2:List Value)(t2:TypeId)(c3:List Value)(t3:TypeId): ∃W,(((w.alloc (.cells c0.toArray t0)).alloc (.cells c1.toArray t1)).alloc (.cells c2.toArray t2)).alloc (.cells c3.toArray t3)=W∧au W w.heap.size t0 c0∧au W (w.heap.size+1) t1 c1∧au W (w.heap.size+1+1) t2 c2∧au W (w.heap.size+1+1+1) t3 c3∧yB w W:=by
 obtain⟨W,rfl,h0,h1,h2,b0⟩:=lG w c0 t0 c1 t1 c2 t2;have h3:=ah (((w.alloc (.cells c0.toArray t0)).alloc (.cells c1.toArray t1)).alloc (.cells c2.toArray t2)) c3 t3;have b3:=af (((w.alloc (.cells c0.toArray t0)).alloc (.cells c1.toArray t1)).alloc (.cells c2.toArray t2)) (.cells c3.toArray t3);rw[World.size_alloc,World.size_alloc,World.size_alloc] at h3;exact⟨_,rfl,h0.l b3,h1.l b3,h2.l b3,h3,aa b0 b3⟩
theorem KH (x:Nat)(hx:x<18446744073709551616)(w:World):
  yC 87 #[.int .u64 x] w fun z w'=> ∃v,z= .returned v∧Own w' w.heap.size 87 .u32 v (Dg.dg 4294967296 x)∧yB w w':=by
 have hlo:(x:Int) % 4294967296=((x % 4294967296:Nat):Int):=by omega
 have hhi:(x:Int)/4294967296=((x/4294967296:Nat):Int):=by omega
 have hx2:x/4294967296<4294967296:=by omega
 have hx1:x % 4294967296<4294967296:=Nat.mod_lt _ (by omega);have hd:=Nq x;obtain⟨lo,elo⟩: ∃n,x % 4294967296=n:=⟨_,rfl⟩;obtain⟨hi,ehi⟩: ∃n,x/4294967296=n:=⟨_,rfl⟩;rw[elo] at hlo hd hx1;rw[ehi] at hhi hd hx2;have own:Own (w.alloc (.cells #[.int .u32 (lo:Int),.int .u32 (hi:Int)] 87)) w.heap.size 87 .u32 (.slice (some ⟨w.heap.size,0,none⟩) 2 2) [lo,hi]:=
  pr (zs:=[lo,hi]) (heap_alloc_new _ _) (Nat.le_refl _) (by unfold maxLen;simp)
 have htr:=jD (some ⟨w.heap.size,0,none⟩) 2 2 [lo,hi] _ own.rd;have hsm:Dg.Small 4294967296 [lo,hi]:=by
  intro i
  match i with
  |0=>exact hx1
  |1=>exact hx2
  |i+2=>simp
 have b0:=af w (.cells #[.int .u32 (lo:Int),.int .u32 (hi:Int)] 87);have HH:Hid (_∧_):=⟨hd,hsm⟩;have hxI:(x:Int)<18446744073709551616:=by omega
 clear elo ehi hd hsm
 go_enter Tryd.func87,Tryd.ntmps87
 go_wp2_with fail
 refine htr.mono ?_;rintro z w1 ⟨n,rfl,ht,rfl⟩
 go_wp2
 go_ret
 obtain⟨hd,hsm⟩:=HH.out;refine⟨_,rfl, ?_,b0⟩;have:=Dg.trim_eq 4294967296 (by omega) [lo,hi] n hsm ht.1 ht.2.1 ht.2.2;rw[hd] at this;rw[←this];exact own.take n ht.1
theorem Bx (A:ak)(b:Int)(up:Bool)(hb:1≤b):(bitLen (bare (aY A b up)).n:Int)≤b:=by
 rcases mX A b up hb with⟨h1,h2⟩| ⟨j,q,_,_,_,_,_,_,hq,hq0,_,h2⟩
 ·rw[h2];exact h1
 ·rw[h2]
  have key: ∀x:Nat,x≤2^b.toNat→ ∀s e,(bitLen (bare ⟨s,x,e⟩).n:Int)≤b:=fun x hx s e=>by
   rcases Nat.lt_or_ge x (2^b.toNat) with h|h
   ·have h3:=Nr (FW ⟨s,x,e⟩)
    have h4:=bF x _ h;simp only at h3;omega
   ·have he:x=2^b.toNat:=by omega
    have h3:(bare ⟨s,x,e⟩).n=1:=by
     unfold bare;simp only;rw[if_neg (by rw[he];exact Nat.pos_iff_ne_zero.1 (Nat.pow_pos (by omega)))];simp only;rw[he,ada,Nat.div_self (Nat.pow_pos (by omega))]
    rw[h3];have:bitLen 1≤1:=bF 1 1 (by omega);omega
  refine key _ ?_ _ _
  split<;>omega
theorem mi (A:ak)(b:Int)(up:Bool)(hb:1≤b):(bare (aY A b up)).n<2^b.toNat:=by
 have h1:=Bx A b up hb;have h2:=(bitLen_spec (bare (aY A b up)).n).1;exact Nat.lt_of_lt_of_le h2 (Nat.pow_le_pow_right (by omega) (by omega))
theorem A6 {K:Nat}{A B:ak}(b:Int)(up:Bool)(hb:1≤b)(hA: -(K:Int)≤A.e)(hB: -(K:Int)≤B.e)(h:V K A≤V K B):V K (aY A b up)≤V K (aY B b up):=by
 obtain⟨a1,a2,a3,a4⟩:=lE A b hb hA;obtain⟨b1,b2,b3,b4⟩:=lE B b hb hB
 cases up
 ·have:=wM B (bare (aY A b false)) b hb hB (mi A b false hb) (by rw[dw a3];omega)
  rwa [dw a3] at this
 ·have:=xZ A (bare (aY B b true)) b hb hA (mi B b true hb) (by rw[dw b4];omega)
  rwa [dw b4] at this
def BT (W:World)(base:Nat)(v:Value):Prop:= ∃p,v= .pointer (some ⟨p,0,none⟩)∧base≤p∧mL W p (.bool false) yN (yi 0) (.bool false) yN (yi 0)∧ZB6 W p
theorem ZB6.off {w w':World}{q b:Nat}(h:ZB6 w q)(hg:w.grownBy w' (some b))(hne:q≠b):ZB6 w' q:=by
 obtain⟨hl,ty,hh⟩:=h;exact⟨Nat.lt_of_lt_of_le hl hg.size,ty,(hg.block q hl (by intro e;cases e;exact hne rfl)).trans hh⟩
theorem tM (a b:ak):bJ (bare a) (bare b)=bJ a b:=by
 have k0: -((a.e.natAbs+b.e.natAbs:Nat):Int)≤a.e:=by omega
 have k1: -((a.e.natAbs+b.e.natAbs:Nat):Int)≤b.e:=by omega
 rw[oY k0 k1,oY (eL k0) (eL k1),dw k0,dw k1]
theorem RVG.near {w:World}{c:Int}{g:Bool}{t:ak}{fl:Int}{z:Ending}{w':World}(h:RVG w c g t fl z w'):RVF w c g t fl z w':=by
 obtain⟨s,h1,h2,-,h3⟩:=h;exact⟨s,h1,h2,h3⟩
theorem jp.store {w:World}{base g n cap:Nat}{bs:List Bool}(h:jp w base (.slice (some ⟨g,0,none⟩) n cap) bs)(hn:n=bs.length)(j:Nat)(x:Bool):
  jp (w.setCell ⟨g,j,none⟩ (.bool x)) base (.slice (some ⟨g,0,none⟩) n cap) (bs.set j x):=by
 subst hn;have:=(World.ownsRow.stored h j (.bool x)).1;unfold jp;rw[List.length_set,List.map_set];exact this
theorem jp.f {w:World}{base g n cap:Nat}{bs:List Bool}(h:jp w base (.slice (some ⟨g,0,none⟩) n cap) bs)(hn:n=bs.length)(j:Nat):w.frozen? ⟨g,j,none⟩=false:=by
 subst hn;exact World.ownsRow.frozenAt h j
theorem jp.block {w:World}{base g n cap:Nat}{bs:List Bool}(h:jp w base (.slice (some ⟨g,0,none⟩) n cap) bs)(hn:n=bs.length):base≤g∧g<w.heap.size:=by
 subst hn;exact World.ownsRow.lt h g rfl
theorem jp.c {w:World}{base g n cap:Nat}{bs:List Bool}(h:jp w base (.slice (some ⟨g,0,none⟩) n cap) bs)(hn:n=bs.length)(j:Nat)(hj:j<bs.length):w.cell? ⟨g,j,none⟩=some (.bool (bs.getD j false)):=by
 subst hn;have hc:=World.ownsRow.cellAt h j (by omega);rw[hc,List.getElem?_map,List.getElem?_eq_getElem hj];simp[List.getD_eq_getElem?_getD,hj]
theorem F7.l {w w':World}{n:Int}{g:Option Nat}{p:ByteArray}{v:Value}(h:F7 w n g p v)(hb:yB w w'):F7 w' n g p v:=⟨h.1,h.2.1.l hb,h.2.2⟩
theorem aC {w w':World}{g o:Nat}{cs:List Value}(h:w.rangeAt g o cs)(hb:yB w w'):w'.rangeAt g o cs:=fun j v hv=>by
 have:=h j v hv;rw[←this];exact World.cell?_of_block (hb.block g (World.block_lt_of_cell? w _ this))
theorem sF.l {w w':World}{n:Int}{ps:List ByteArray}{g cap:Nat}(h:sF w n ps g cap)(hb:yB w w'):sF w' n ps g cap:=
 ⟨h.fit,h.most,fun i p hp=>by
  obtain⟨so,sc,h1,h2⟩:=h.each i p hp;exact⟨so,sc,aC h1 hb,h2.l hb⟩⟩
theorem sF.off {w w':World}{n:Int}{ps:List ByteArray}{g cap b:Nat}{ty:TypeId}{vs:List Value}(h:sF w n ps g cap)(bu:But b w w')(hl:au w b ty vs)(hu: ∀x∈vs,∀k:Int,x≠ .int .u32 k)(hg:g≠b):sF w' n ps g cap:=
 ⟨h.fit,h.most,fun i p hp=>by
  obtain⟨so,sc,h1,h2⟩:=h.each i p hp;exact⟨so,sc,fun j v hj=>by rw[bu.c (by exact hg)];exact h1 j v hj,bu.rd h2 (aX h2 hl hu)⟩⟩
theorem fin43 {P:Program}{w0 w:World}{n b:Nat}{tv tx:TypeId}{z0 z1 z2 z3 y0 y1 y2:Value}{dv dx:TypeDesc}(hv:au w b tv [z0,z1,z2,z3])(hx:au w (b+1) tx [y0,y1,y2])(hb:Below n w0 w)(hn:n≤b)(huv:P.underlying tv=some dv)(hdv:dv.isRow=true)(hiv:(P.info? tv).map (·.size)=some 4)(hux:P.underlying tx=some dx)(hdx:dx.isRow=true)(hix:(P.info? tx).map (·.size)=some 3)
  (nv: ∀x∈[z0,z1,z2,z3],∀n:Int,x≠ .int .u32 n) (nx: ∀x∈[y0,y1,y2],∀n:Int,x≠ .int .u32 n) (v0 v1 v2 v3 x0 x1 x2:Value):
  (loadVar tv ⟨b,0,none⟩).run P (((((((w.setCell ⟨b,0,none⟩ v0).setCell ⟨b,1,none⟩ v1).setCell ⟨b,2,none⟩ v2).setCell ⟨b,3,none⟩ v3).setCell ⟨b+1,0,none⟩ x0).setCell ⟨b+1,1,none⟩ x1).setCell ⟨b+1,2,none⟩ x2)= .ok (.agg #[v0,v1,v2,v3]) (((((((w.setCell ⟨b,0,none⟩ v0).setCell ⟨b,1,none⟩ v1).setCell ⟨b,2,none⟩ v2).setCell ⟨b,3,none⟩ v3).setCell ⟨b+1,0,none⟩ x0).setCell ⟨b+1,1,none⟩ x1).setCell ⟨b+1,2,none⟩ x2)∧
  (loadVar tx ⟨b+1,0,none⟩).run P (((((((w.setCell ⟨b,0,none⟩ v0).setCell ⟨b,1,none⟩ v1).setCell ⟨b,2,none⟩ v2).setCell ⟨b,3,none⟩ v3).setCell ⟨b+1,0,none⟩ x0).setCell ⟨b+1,1,none⟩ x1).setCell ⟨b+1,2,none⟩ x2)= .ok (.agg #[x0,x1,x2]) (((((((w.setCell ⟨b,0,none⟩ v0).setCell ⟨b,1,none⟩ v1).setCell ⟨b,2,none⟩ v2).setCell ⟨b,3,none⟩ v3).setCell ⟨b+1,0,none⟩ x0).setCell ⟨b+1,1,none⟩ x1).setCell ⟨b+1,2,none⟩ x2)∧
  Below n w0 (((((((w.setCell ⟨b,0,none⟩ v0).setCell ⟨b,1,none⟩ v1).setCell ⟨b,2,none⟩ v2).setCell ⟨b,3,none⟩ v3).setCell ⟨b+1,0,none⟩ x0).setCell ⟨b+1,1,none⟩ x1).setCell ⟨b+1,2,none⟩ x2)∧
  ∀v zs,Rd w .u32 v zs→Rd (((((((w.setCell ⟨b,0,none⟩ v0).setCell ⟨b,1,none⟩ v1).setCell ⟨b,2,none⟩ v2).setCell ⟨b,3,none⟩ v3).setCell ⟨b+1,0,none⟩ x0).setCell ⟨b+1,1,none⟩ x1).setCell ⟨b+1,2,none⟩ x2) .u32 v zs:=by
 have n1:b+1≠b:=by omega
 have n2:b≠b+1:=by omega
 have cX0:=((((hx.off n2 0 v0).off n2 1 v1).off n2 2 v2).off n2 3 v3);have cV:=((((((hv.set 0 v0).set 1 v1).set 2 v2).set 3 v3).off n1 0 x0).off n1 1 x1).off n1 2 x2;have cX:=((cX0.set 0 x0).set 1 x1).set 2 x2;have bu1:=(((ag w b 0 v0).trans (ag _ b 1 v1)).trans (ag _ b 2 v2)).trans (ag _ b 3 v3);have bu2:=((ag ((((w.setCell ⟨b,0,none⟩ v0).setCell ⟨b,1,none⟩ v1).setCell ⟨b,2,none⟩ v2).setCell ⟨b,3,none⟩ v3) (b+1) 0 x0).trans (ag _ (b+1) 1 x1)).trans (ag _ (b+1) 2 x2);refine⟨run_loadVar_mid (P:=P) _ b 0 tv [v0,v1,v2,v3] _ cV.range huv hdv hiv,run_loadVar_mid (P:=P) _ (b+1) 0 tx [x0,x1,x2] _ cX.range hux hdx hix,bu2.below (bu1.below hb hn) (by omega),fun v zs r=> ?_⟩
 have r1:=bu1.rd r (aX r hv nv);exact bu2.rd r1 (aX r1 cX0 nx)
theorem OL {a b:ak}(ha: ∃y,a=bare y)(hb: ∃y,b=bare y):dJ (bare (cO a (dB b)))=bJ a b:=by
 obtain⟨y,rfl⟩:=ha;obtain⟨z,rfl⟩:=hb;rw[tM];exact lP y z
end Go.Proofs.YtiakgfmlpdfhdaaDoor

/-
  Texts laid together: Co6, Co14, Dr4, Bl6, Co18, Ce2, Nx2, Ar2, Ar4, Rk1, Bl4, Bl11, Bl12, Bl18, Sr2, Sr3, Bm7, Br1, Br3, Br4.
-/
import Derived.Test.YtiakgfmlpdfhdaaGreatDoorTa14
import Derived.Test.YtiakgfmlpdfhdaaGreatDoorTa16
import Derived.Test.YtiakgfmlpdfhdaaGreatDoorTa18
set_option maxRecDepth 100000
set_option maxHeartbeats 3200000
namespace Go.Proofs.YtiakgfmlpdfhdaaGreatDoor
open _root_.Go.Proofs.Tryz
open Go.RowKit
theorem O7 (w:World)(b o:Nat)(v:Value)(g i:Nat):(w.setCell ⟨b,o,none⟩ v).frozen? ⟨g,i,none⟩=w.frozen? ⟨g,i,none⟩:=
 World.frozen?_setCells b [v] o w ⟨g,i,none⟩
def wG (k:Nat)(s:ByteArray):List Nat:=jT k (jr s)
def aZ (k:Nat)(s:ByteArray):Bool:=decide (eH (wG k s) 0 1=1)
def aR (k:Nat)(s:ByteArray):Nat:=eH (wG k s) 1 (exN k)
def aU (k:Nat)(s:ByteArray):Nat:=eH (wG k s) (1+exN k) (frN k)
theorem ua (s:Bool)(ao:Option Addr)(ca:Nat)(xs:List Nat)(e:Int)(t:Bool)(bo:Option Addr)(cb:Nat)(ys:List Nat)(f:Int)(w:World)(hr:Rd w .u32 (.slice ao xs.length ca) xs)(hq:Rd w .u32 (.slice bo ys.length cb) ys):
  yC 26 #[ydV s (.slice ao xs.length ca) e,ydV t (.slice bo ys.length cb) f] w (yR w (yi (dQ xs e ys f))):=by
 have bA:=aa (af w (.cells (ydA s (.slice ao xs.length ca) e) 25)) (af _ (.cells (ydA t (.slice bo ys.length cb) f) 25));have l1:=(aA w (.bool s) (.slice ao xs.length ca) (yi e) 25).l (af _ (.cells (ydA t (.slice bo ys.length cb) f) 25));have l2:=aA (w.alloc (.cells (ydA s (.slice ao xs.length ca) e) 25)) (.bool t) (.slice bo ys.length cb) (yi f) 25;rw[World.size_alloc] at l2;have h1:=gl s ao ca xs e _ (hr.l bA);have H2:Hid (yH w 46 #[ydV t (.slice bo ys.length cb) f] (yi (aS ys f))):=fun w1 b1=>gl t bo cb ys f w1 (hq.l b1)
 unfold dQ;obtain⟨c,hc⟩: ∃c,aS xs e=c:=⟨_,rfl⟩;obtain⟨d,hd⟩: ∃d,aS ys f=d:=⟨_,rfl⟩;rw[hc] at h1⊢;rw[hd] at H2⊢;clear hc hd hr hq
 by_cases h:c=0
 ·subst h
  rw[if_pos rfl]
  go_enter func26,ntmps26
  go_wp2_with fail
  refine h1.mono ?_;rintro z w1 ⟨rfl,b1⟩;have l2:=l2.l b1;have b01:=aa bA b1;obtain⟨-,⟨c0,c1,c2⟩,-⟩:=id l2;clear h1 bA b1
  go_wp2_with fail
  refine(H2.out w1 b01).mono ?_;rintro z w2 ⟨rfl,b2⟩;have b02:=aa b01 b2
  go_wp2
  go_ret
  exact⟨rfl,b02⟩
 ·rw[if_neg h]
  have h3:(c==0)=false:=by simp[h]
  go_enter func26,ntmps26
  go_wp2_with fail
  refine h1.mono ?_;rintro z w1 ⟨rfl,b1⟩;have b01:=aa bA b1;clear h1
  go_wp2
  go_ret
  exact⟨rfl,b01⟩
theorem ie (s:Bool)(ao:Option Addr)(ca la:Nat)(e:Int)(t:Bool)(bo:Option Addr)(cb lb:Nat)(f:Int)(x y:ak)(w:World)
  (H1: ∀w1,yB w w1→yC 27 #[ydV s (.slice ao la ca) e] w1 (dr w1 x))
  (H2: ∀w1,yB w w1→yC 27 #[ydV t (.slice bo lb cb) f] w1 (dr w1 y)):
  yC 8 #[.agg #[.bool s,.slice ao la ca,yi e,.bool t,.slice bo lb cb,yi f]] w (tR w x y):=by
 have HC1:Hid _:=H1;have HC2:Hid _:=H2;clear H1 H2;obtain⟨xs,xn,xe⟩:=x;obtain⟨ys,yn,ye⟩:=y;have bA:=aa (af w (.cells #[.bool s,.slice ao la ca,yi e,.bool t,.slice bo lb cb,yi f] 27)) (af _ (.cells #[.bool false,yN,yi 0,.bool false,yN,yi 0] 37));have l1:=(aJ w (.bool s) (.slice ao la ca) (yi e) (.bool t) (.slice bo lb cb) (yi f) 27).l (af _ (.cells #[.bool false,yN,yi 0,.bool false,yN,yi 0] 37));have l2:=aJ (w.alloc (.cells #[.bool s,.slice ao la ca,yi e,.bool t,.slice bo lb cb,yi f] 27)) (.bool false) yN (yi 0) (.bool false) yN (yi 0) 37;have z2:=pM (w.alloc (.cells #[.bool s,.slice ao la ca,yi e,.bool t,.slice bo lb cb,yi f] 27)) 37;rw[World.size_alloc] at l2 z2;obtain⟨W,hW⟩: ∃W,((w.alloc (.cells #[.bool s,.slice ao la ca,yi e,.bool t,.slice bo lb cb,yi f] 27)).alloc (.cells #[.bool false,yN,yi 0,.bool false,yN,yi 0] 37))=W:=⟨_,rfl⟩;rw[hW] at bA l1 l2 z2;have bd:yB W W.drew:=(Below.refl _ _).drew;have l1:=l1.l bd;have l2:=l2.l bd;have z2:=z2.l bd;have b02:=aa bA bd;rw[←hW] at l1 l2 z2 b02;clear bA bd hW;obtain⟨-,⟨c0,c1,c2,c3,c4,c5⟩,-⟩:=id l1;have ne3:w.heap.size+1≠w.heap.size:=by omega
 go_enter func8,ntmps8
 go_wp2_with fail
 go_region_held3 (fun wq=>(wq.cell? ⟨w.heap.size,0,none⟩=some (.bool s)∧wq.cell? ⟨w.heap.size,1,none⟩=some (.slice ao la ca)∧wq.cell? ⟨w.heap.size,2,none⟩=some (yi e))∧wq.cell? ⟨w.heap.size,3,none⟩=some (.bool t)∧wq.cell? ⟨w.heap.size,4,none⟩=some (.slice bo lb cb)∧wq.cell? ⟨w.heap.size,5,none⟩=some (yi f)) (go_keep) (first
  | (go_at_call 27;refine(HC1.out _ b02).mono ?_;rintro z w3 ⟨vs,rfl,r3,b3⟩;have l13:=l1.l b3;have l23:=l2.l b3;have z23:=z2.l b3;have b03:=aa b02 b3;clear b02;obtain⟨-,⟨p0,p1,p2,p3,p4,p5⟩,-⟩:=id l13;obtain⟨so0,sc0,hv0⟩:=r3.shape;subst hv0)
  | (go_at_call 27;refine(HC2.out w3 b03).mono ?_;rintro z w4 ⟨vt,rfl,r4,b4⟩;have r34:=r3.l b4;have l14:=l13.l b4;have l24:=l23.l b4;have z24:=z23.l b4;have b04:=aa b03 b4;obtain⟨so,sc,hvs⟩:=r4.shape;subst hvs;obtain⟨-,⟨q0,q1,q2,q3,q4,q5⟩,-⟩:=id l14;obtain⟨hl3,⟨d0,d1,d2,d3,d4,d5⟩,f0,f1,f2,f3,f4,f5⟩:=id l24))
 all_goals go_wp2
 obtain⟨-,⟨g0,g1,g2,g3,g4,g5⟩,-⟩:=bP l24 (.bool xs) (yS so0 xn sc0) (yi xe) (.bool ys) (yS so yn sc) (yi ye);have r7:=z24.rd r34 (Dg.norm_dg _ _ (by omega)) (.bool xs) (yS so0 xn sc0) (yi xe) (.bool ys) (yS so yn sc) (yi ye);have r8:=z24.rd r4 (Dg.norm_dg _ _ (by omega)) (.bool xs) (yS so0 xn sc0) (yi xe) (.bool ys) (yS so yn sc) (yi ye);have b8:=aW b04 (show w.heap.size≤w.heap.size+1 by omega) (.bool xs) (yS so0 xn sc0) (yi xe) (.bool ys) (yS so yn sc) (yi ye)
 refine bodyPost_ret (v:= .agg #[.bool xs,yS so0 xn sc0,yi xe,.bool ys,yS so yn sc,yi ye]) (by simp[results,results8,go_sem,g0,g1,g2,g3,g4,g5]) rfl ?_;exact⟨_,_,rfl,r7,r8,b8⟩
def bM (n:Int)(s:ByteArray):Nat:=if dF n s=0 then dh n.toNat (aZ n.toNat s) (aR n.toNat s) (aU n.toNat s) else 0
def dz (n:Int)(s:ByteArray):Bool:=if dF n s=0 then kt n.toNat (aZ n.toNat s) (aR n.toNat s) (aU n.toNat s) else false
theorem jp.c {w:World}{base g n cap:Nat}{bs:List Bool}(h:jp w base (.slice (some ⟨g,0,none⟩) n cap) bs)(hn:n=bs.length)(j:Nat)(hj:j<bs.length):w.cell? ⟨g,j,none⟩=some (.bool (bs.getD j false)):=by
 subst hn;have hc:=World.ownsRow.cellAt h j (by omega);rw[hc,List.getElem?_map,List.getElem?_eq_getElem hj];simp[List.getD_eq_getElem?_getD,hj]
def nxT (k:Nat)(s:ByteArray):ak:=ji k (aZ k s) (aR k s) (aU k s)
def opT (n:Int)(p:ByteArray):ak:=if dF n p=0 then nxT n.toNat p else⟨false,0,0⟩
def opC (n : Int) (p : ByteArray) (v : Value) : List Value := [.int .i64 ((bM n p : Nat) : Int), .bool (dz n p), .bool (opT n p).s, v, .int .i64 (opT n p).e]
def F7 (w:World)(n:Int)(g:Option Nat)(p:ByteArray)(v:Value):Prop:=
 (∃so sc,v= .slice so (Dg.dg 4294967296 (opT n p).n).length sc)∧Rd w .u32 v (Dg.dg 4294967296 (opT n p).n)∧ ∀b,g=some b→wF b v (Dg.dg 4294967296 (opT n p).n)
theorem F7.l {w w':World}{n:Int}{g:Option Nat}{p:ByteArray}{v:Value}(h:F7 w n g p v)(hb:yB w w'):F7 w' n g p v:=⟨h.1,h.2.1.l hb,h.2.2⟩
structure sF (w:World) (n:Int) (ps:List ByteArray) (g cap:Nat):Prop where
 fit:ps.length≤cap
 most:cap≤maxLen
 each: ∀(i:Nat) p,ps[i]? =some p→ ∃so sc,w.rangeAt g (i*5) (opC n p (.slice so (Dg.dg 4294967296 (opT n p).n).length sc))∧Rd w .u32 (.slice so (Dg.dg 4294967296 (opT n p).n).length sc) (Dg.dg 4294967296 (opT n p).n)
theorem sF.l {w w':World}{n:Int}{ps:List ByteArray}{g cap:Nat}(h:sF w n ps g cap)(hb:yB w w'):sF w' n ps g cap:=
 ⟨h.fit,h.most,fun i p hp=>by
  obtain⟨so,sc,h1,h2⟩:=h.each i p hp;exact⟨so,sc,aC h1 hb,h2.l hb⟩⟩
theorem ut.trans {J K:Int}{N1 M1 N2 M2 N3 M3:Nat}{E1 E2 E3:Int}(h:ut J N1 M1 E1 N2 M2 E2)(g:ut K N2 M2 E2 N3 M3 E3):ut (max J K) N1 M1 E1 N3 M3 E3:=fun j hj=>by
 obtain⟨a1,a2⟩:=h j (by omega);obtain⟨b1,b2⟩:=g j (by omega);exact⟨a1.trans b1,a2.trans b2⟩
theorem NK (n:Int)(b:Nat)(s:Bool)(ao:Option Addr)(ca la:Nat)(e:Int)(t:Bool)(bo:Option Addr)(cb lb:Nat)(f:Int)(c:Int)(r:Bool)(co:Option Addr)(cc lc:Nat)(g:Int)(u:Bool)(d':Option Addr)(cd ld:Nat)(k:Int)(d:Int)(w:World)
  (h0:w.cell? ⟨b,0,none⟩=some (.bool s)) (h1:w.cell? ⟨b,1,none⟩=some (.slice ao la ca)) (h2:w.cell? ⟨b,2,none⟩=some (yi e)) (h3:w.cell? ⟨b,3,none⟩=some (.bool t)) (h4:w.cell? ⟨b,4,none⟩=some (.slice bo lb cb)) (h5:w.cell? ⟨b,5,none⟩=some (yi f))
  (j0:w.cell? ⟨b,6,none⟩=some (.bool r)) (j1:w.cell? ⟨b,7,none⟩=some (.slice co lc cc)) (j2:w.cell? ⟨b,8,none⟩=some (yi g)) (j3:w.cell? ⟨b,9,none⟩=some (.bool u)) (j4:w.cell? ⟨b,10,none⟩=some (.slice d' ld cd)) (j5:w.cell? ⟨b,11,none⟩=some (yi k))
  (H1:yH w 21 #[.agg #[.bool s,.slice ao la ca,yi e,.bool t,.slice bo lb cb,yi f]] (yi c))
  (H2:yH w 21 #[.agg #[.bool r,.slice co lc cc,yi g,.bool u,.slice d' ld cd,yi k]] (yi d)):
  yC 64 #[yi n,.slice (some ⟨b,0,none⟩) 2 2] w (yR w (yi (cW n c d))):=by
 unfold cW kj;have bA:=af w (.cells #[.bool s,.slice ao la ca,yi e,.bool t,.slice bo lb cb,yi f] 27);have hk:=H1 _ bA;have HQ:Hid _:=H2;clear H1 H2
 by_cases h:c=0
 ·subst h
  rw[if_pos rfl]
  by_cases h':d=0
  ·subst h'
   rw[if_pos rfl];unfold Vr
   by_cases hl:n<1
   ·rw[if_pos (Or.inl hl)]
    go_enter func64,ntmps64
    go_wp2
    refine wp_loop_rounds 3 ?_;rw[rounds_succ]
    go_wp2_with fail
    refine hk.mono ?_;rintro z w1 ⟨rfl,b1⟩;have b01:=aa bA b1;have k0:=cell_later b01 j0;have k1:=cell_later b01 j1;have k2:=cell_later b01 j2;have k3:=cell_later b01 j3;have k4:=cell_later b01 j4;have k5:=cell_later b01 j5;have b2:=aa b01 (af w1 (.cells #[.bool r,.slice co lc cc,yi g,.bool u,.slice d' ld cd,yi k] 27));clear hk bA b1
    go_wp2
    rw[rounds_succ]
    go_wp2_with fail
    refine(HQ.out _ b2).mono ?_;rintro z w2 ⟨rfl,b3⟩;have b03:=aa b2 b3
    go_wp2
    rw[rounds_succ]
    go_wp2
    go_ret
    exact⟨rfl,b03⟩
   ·by_cases hg:4096<n
    ·rw[if_pos (Or.inr hg)]
     go_enter func64,ntmps64
     go_wp2
     refine wp_loop_rounds 3 ?_;rw[rounds_succ]
     go_wp2_with fail
     refine hk.mono ?_;rintro z w1 ⟨rfl,b1⟩;have b01:=aa bA b1;have k0:=cell_later b01 j0;have k1:=cell_later b01 j1;have k2:=cell_later b01 j2;have k3:=cell_later b01 j3;have k4:=cell_later b01 j4;have k5:=cell_later b01 j5;have b2:=aa b01 (af w1 (.cells #[.bool r,.slice co lc cc,yi g,.bool u,.slice d' ld cd,yi k] 27));clear hk bA b1
     go_wp2
     rw[rounds_succ]
     go_wp2_with fail
     refine(HQ.out _ b2).mono ?_;rintro z w2 ⟨rfl,b3⟩;have b03:=aa b2 b3
     go_wp2
     rw[rounds_succ]
     go_wp2
     go_ret
     exact⟨rfl,b03⟩
    ·rw[if_neg (by omega)]
     go_enter func64,ntmps64
     go_wp2
     refine wp_loop_rounds 3 ?_;rw[rounds_succ]
     go_wp2_with fail
     refine hk.mono ?_;rintro z w1 ⟨rfl,b1⟩;have b01:=aa bA b1;have k0:=cell_later b01 j0;have k1:=cell_later b01 j1;have k2:=cell_later b01 j2;have k3:=cell_later b01 j3;have k4:=cell_later b01 j4;have k5:=cell_later b01 j5;have b2:=aa b01 (af w1 (.cells #[.bool r,.slice co lc cc,yi g,.bool u,.slice d' ld cd,yi k] 27));clear hk bA b1
     go_wp2
     rw[rounds_succ]
     go_wp2_with fail
     refine(HQ.out _ b2).mono ?_;rintro z w2 ⟨rfl,b3⟩;have b03:=aa b2 b3
     go_wp2
     rw[rounds_succ]
     go_wp2
     go_ret
     exact⟨rfl,b03⟩
  ·rw[if_neg h']
   go_enter func64,ntmps64
   go_wp2
   refine wp_loop_rounds 3 ?_;rw[rounds_succ]
   go_wp2_with fail
   refine hk.mono ?_;rintro z w1 ⟨rfl,b1⟩;have b01:=aa bA b1;have k0:=cell_later b01 j0;have k1:=cell_later b01 j1;have k2:=cell_later b01 j2;have k3:=cell_later b01 j3;have k4:=cell_later b01 j4;have k5:=cell_later b01 j5;have b2:=aa b01 (af w1 (.cells #[.bool r,.slice co lc cc,yi g,.bool u,.slice d' ld cd,yi k] 27));clear hk bA b1
   go_wp2
   rw[rounds_succ]
   go_wp2_with fail
   refine(HQ.out _ b2).mono ?_;rintro z w2 ⟨rfl,b3⟩;have b03:=aa b2 b3
   go_wp2
   go_ret
   exact⟨rfl,b03⟩
 ·rw[if_neg h]
  go_enter func64,ntmps64
  go_wp2
  refine wp_loop_rounds 3 ?_;rw[rounds_succ]
  go_wp2_with fail
  refine hk.mono ?_;rintro z w1 ⟨rfl,b1⟩;have b01:=aa bA b1
  go_wp2
  go_ret
  exact⟨rfl,b01⟩
def du (x:Nat→ak)(m:Nat)(n:Int):ak×ak×Int:=iD (bU (aY (loT x (m-1)) n false)) (bU (aY (hiT x (m-1)) n true))
theorem aO {xs:List Nat}{e:Int}(h:aS xs e=0)(sa:Dg.Small 4294967296 xs):Dg.Norm xs∧Dg.dg 4294967296 (Dg.vl 4294967296 xs)=xs∧xs.length≤1200∧ -20000≤e∧e≤20000:=by
 obtain⟨c1,e1,e2⟩:=bL h;obtain⟨z1,z2⟩:=aF c1;exact⟨z1,(Dg.eq_dg 4294967296 (by omega) xs _ sa z1 rfl).symm,z2,e1,e2⟩
theorem fh {n c d:Int}(h:cW n c d=0):c=0∧d=0∧1≤n∧n≤4096:=by
 unfold cW at h
 by_cases h1:c=0
 ·rw[if_pos h1] at h
  unfold kj at h
  by_cases h2:d=0
  ·rw[if_pos h2] at h
   unfold Vr at h
   by_cases h3:n<1∨4096<n
   ·rw[if_pos h3] at h;omega
   ·exact⟨h1,h2,by omega,by omega⟩
  ·rw[if_neg h2] at h;exact absurd h h2
 ·rw[if_neg h1] at h;exact absurd h h1
theorem zJ {P:Program}{f:FuncId}{fn:Func}{c:Code}(hf:P.funcs[f]? =some fn)(hname:(fn.name== "runtime.NumGoroutine")=false)(hb:fn.body=some c)(args:Array Value)(W:World):
  Sem.run P (callFunc f args) W= .ok (.enter f args) W:=by
 have h1:fn.name≠ "runtime.NumGoroutine" :=by simpa using hname
 simp[callFunc,hf,h1,hb]
theorem gA (T:ak→ak→ak)(A0 A1 B0 B1:ak)(Q:ak→Prop)(h0:Q (T A0 B0))(h1:Q (T A0 B1))(h2:Q (T A1 B0))(h3:Q (T A1 B1)): ∀j,Q (dk T A0 A1 B0 B1 j)
 |0=>h0
 |1=>h1
 |2=>h2
 |_+3=>h3
theorem cf {s:Bool}{xs:List Nat}{e:Int}(hd:Dg.dg 4294967296 (Dg.vl 4294967296 xs)=xs)(hl:xs.length≤1200):bitLen (⟨s,Dg.vl 4294967296 xs,e⟩:ak).n≤38400:=by
 have:=gf (a:=Dg.vl 4294967296 xs) (L:=1200) (by rw[hd];exact hl)
 show bitLen (Dg.vl 4294967296 xs)≤38400
 omega
theorem kO {a b:ak}(ha:bitLen a.n≤38400)(hb:bitLen b.n≤38400)(a1: -20000≤a.e)(a2:a.e≤20000)(b1: -20000≤b.e)(b2:b.e≤20000):
  (Dg.dg 4294967296 (aG a b).n).length≤9000∧ -100000≤(aG a b).e∧(aG a b).e≤100000:=by
 have hm:(a.e-min a.e b.e).toNat≤40000∧(b.e-min a.e b.e).toNat≤40000:=⟨by omega,by omega⟩;obtain⟨h1,h2⟩:=hm;obtain⟨M,hM⟩: ∃M,M=78400:=⟨_,rfl⟩;have hs:a.n*2^ (a.e-min a.e b.e).toNat+b.n*2^ (b.e-min a.e b.e).toNat<2^ (M+1):=LV (bitLen_spec a.n).1 (bitLen_spec b.n).1 (by omega) (by omega);have he:(aG a b).e=min a.e b.e:=by
  unfold aG;simp only
  split
  ·rfl
  ·split<;>rfl
 have hn:(aG a b).n≤a.n*2^ (a.e-min a.e b.e).toNat+b.n*2^ (b.e-min a.e b.e).toNat:=by
  unfold aG;simp only
  split
  ·exact Nat.le_refl _
  ·split
   ·exact Nat.le_trans (Nat.sub_le _ _) (Nat.le_add_left _ _)
   ·exact Nat.le_trans (Nat.sub_le _ _) (Nat.le_add_right _ _)
 refine⟨j8 (Nat.lt_of_le_of_lt hn hs) (by omega),by rw[he];omega,by rw[he];omega⟩
theorem rd_cell16 {w:World}{q d:Nat}(h:au w q 3 [yi d])(hd:Dg.dg 65536 d=[d]):Rd w .i64 (.slice (some ⟨q,0,none⟩) 1 1) (Dg.dg 65536 d):=by
 rw[hd];exact⟨_,_,rfl,by simp,by unfold maxLen;simp,fun _=>⟨_,0,rfl,fun i hi=>by
  obtain rfl:i=0:=by simpa using hi
  exact h.c 0 rfl⟩⟩
theorem log_ln:leB 1119 (lgS XLn)=true:=by kernel_rfl
theorem log_piS:leB 1121 (lgS XPi)=true:=by kernel_rfl
theorem pi_low:leB (3*pw 1120+pw 1104) XPi=true:=by kernel_rfl
theorem pi_high:leB (XPi+pw 1104+1) (4*pw 1120)=true:=by kernel_rfl
theorem log_pi':1121≤Nat.log2 XPi:=by
 have h:=of_leB log_piS;rw[lgS_eq] at h
 assumption
theorem log_ln':1119≤Nat.log2 XLn:=by
 have h:=of_leB log_ln;rw[lgS_eq] at h
 assumption
theorem pi_low':3*pw 1120+pw 1104≤XPi:=of_leB pi_low
theorem pi_high':XPi+pw 1104+1≤4*pw 1120:=of_leB pi_high
theorem V_zeroTS (K:Nat):V K fL=0:=by
 unfold fL;rw[eV];simp[sz]
theorem Nk {n k:Nat}(h0:n≠0)(h:n≤2^k):tz n≤k:=by
 obtain⟨m,hm⟩:=fO h0;have h2:2^tz n*1≤2^tz n*(2*m+1):=Nat.mul_le_mul_left _ (by omega);have h3:2^tz n≤2^k:=by omega
 exact(Nat.pow_le_pow_iff_right (by omega)).1 h3
theorem FQ {A:ak}{b:Int}{up:Bool}{lo hi:Int}(hb:1≤b)(h1:lo≤A.e)(h2:A.e+(bitLen A.n:Int)≤hi)(h3:lo≤0)(h4:0≤hi):lo≤(bare (aY A b up)).e∧(bare (aY A b up)).e≤hi:=by
 by_cases hz:(aY A b up).n=0
 ·unfold bare
  rw[if_pos hz];exact⟨h3,h4⟩
 ·rcases mX A b up hb with⟨_,h⟩| ⟨j,q,_,h0,hj,_,_,_,hq,_,_,h⟩
  ·rw[h] at hz⊢
   have ht:=Nk hz (Nat.le_of_lt (bitLen_spec A.n).1);unfold bare;rw[if_neg hz]
   show lo≤A.e+(tz A.n:Int)∧A.e+(tz A.n:Int)≤hi
   omega
  ·rw[h] at hz⊢
   have hx:q+(if(up != A.s)=true then 1 else 0)≤2^b.toNat:=by split<;>omega
   have ht:tz (q+(if(up != A.s)=true then 1 else 0))≤b.toNat:=Nk hz hx
   unfold bare;rw[if_neg hz]
   show lo≤A.e+(j:Int)+(tz (q+(if(up != A.s)=true then 1 else 0)):Int)∧A.e+(j:Int)+(tz (q+(if(up != A.s)=true then 1 else 0)):Int)≤hi
   omega
theorem brk1_W (a b:ak)(ao bo:Option Addr)(ac bc:Nat)(pb:Nat)(m m1:Int)(B:Bool)(w:World)(lb:w.rangeAt pb 0 [.bool a.s,yT ao a.n ac,yi a.e,.bool b.s,yT bo b.n bc,yi b.e])(hm:IntKind.i64.wrap (m+1)=m1)
  (HC:yH w 25 #[.agg #[.bool a.s,yT ao a.n ac,yi a.e,.bool b.s,yT bo b.n bc,yi b.e],yi m1] (.bool B)):
  yC 24 #[yi m,.pointer (some ⟨pb,0,none⟩)] w (yR w (.bool (!B))):=by
 replace HC:Hid _:=HC
 go_enter func24,ntmps24
 have b0:=Below.refl w.heap.size w;have c1:=lb 0 _ rfl;have c2:=lb 1 _ rfl;have c3:=lb 2 _ rfl;have c4:=lb 3 _ rfl;have c5:=lb 4 _ rfl;have c6:=lb 5 _ rfl
 go_wp2_with fail
 refine(HC.out _ b0).mono ?_;rintro zz w7 ⟨rfl,bb8⟩;have b9:=aa b0 bb8;clear lb b0 bb8 HC c1 c2 c3 c4 c5 c6
 go_wp2
 go_ret
 exact⟨by rfl,b9⟩
theorem bsN_spec (F:Nat→Bool)(m:Nat): ∀f i j,j-i≤f→i≤j→j≤m→(0<i→F (i-1)=false)→(j<m→F j=true)→
  bsN F f i j≤m∧(0<bsN F f i j→F (bsN F f i j-1)=false)∧(bsN F f i j<m→F (bsN F f i j)=true):=by
 intro f
 induction f with
 |zero=>
  intro i j h1 h2 h3 h4 h5;obtain rfl:i=j:=by omega
  exact⟨h3,h4,h5⟩
 |succ f ih=>
  intro i j h1 h2 h3 h4 h5;unfold bsN
  by_cases c:i<j
  ·rw[if_pos c]
   cases hF:F ((i+j)/2)
   ·rw[if_neg (by decide)]
    exact ih _ _ (by omega) (by omega) h3 (fun _=>hF) h5
   ·rw[if_pos rfl]
    exact ih _ _ (by omega) (by omega) (by omega) h4 (fun _=>hF)
  ·rw[if_neg c]
   obtain rfl:i=j:=by omega
   exact⟨h3,h4,h5⟩
def sameL (u v:ak)(m:Int):Bool:=dJ (bare (cO (dE u m false) (dB (dE v m false))))==0
def brkN (a b:ak)(m:Nat):Nat:=bsN (fun i=> !sameP a b ((i+1:Nat):Int)) m 0 m
theorem brkN_spec (a b:ak)(m:Nat):brkN a b m≤m∧(0<brkN a b m→sameP a b ((brkN a b m:Nat):Int)=true)∧(brkN a b m<m→sameP a b ((brkN a b m+1:Nat):Int)=false):=by
 obtain⟨h1,h2,h3⟩:=bsN_spec (fun i=> !sameP a b ((i+1:Nat):Int)) m m 0 m (by omega) (by omega) (Nat.le_refl _) (fun h=>absurd h (by omega)) (fun h=>absurd h (by omega))
 refine⟨h1,fun h=> ?_,fun h=> ?_⟩
 ·have:=h2 h
  simp only[Bool.not_eq_false'] at this;unfold brkN at h⊢
  rwa [show∀x,0<x→x-1+1=x from fun x hx=>by omega] at this
  exact h
 ·have h4:(!sameP a b ((brkN a b m+1:Nat):Int))=true:=h3 h
  cases hq:sameP a b ((brkN a b m+1:Nat):Int)
  ·rfl
  ·rw[hq] at h4
   cases h4
theorem same_one {K:Nat}{a b:ak}{m:Nat}(hm:1≤m)(ha: -(K:Int)≤a.e)(hb: -(K:Int)≤b.e)(h:V K (aY a m false)=V K (aY b m false)):V K (aY a 1 false)=V K (aY b 1 false):=by
 have half: ∀{a b:ak},-(K:Int)≤a.e→ -(K:Int)≤b.e→V K (aY a m false)=V K (aY b m false)→V K (aY a 1 false)≤V K (aY b 1 false):=fun {a b} ha hb h=>by
  obtain⟨l1,-,e1,-⟩:=lE (K:=K) a 1 (by omega) ha;obtain⟨l2,-,-,-⟩:=lE (K:=K) b m (by omega) hb;have hl:=mi a 1 false (by omega);have hv:=dw (K:=K) e1;have hlm:(bare (aY a 1 false)).n<2^ ((m:Int)).toNat:=Nat.lt_of_lt_of_le hl (two_mono (by omega));have b1:=wM (K:=K) a (bare (aY a 1 false)) m (by omega) ha hlm (by rw[hv];exact l1);have b2:=wM (K:=K) b (bare (aY a 1 false)) 1 (by omega) hb hl (by omega);omega
 have h1:=half ha hb h;have h2:=half hb ha h.symm;omega
theorem minus_bare (t:ak):dB (bare t)=bare (dV t):=by
 unfold dB bare dV
 by_cases h:t.n=0
 ·rw[if_pos h,if_pos h]
  rfl
 ·rw[if_neg h,if_neg h]
  simp only;have:0<t.n/2^tz t.n:=by
   refine Nat.pos_of_ne_zero fun c=> ?_
   have h1:=dw (K:=t.e.natAbs) (a:=t) (by omega);unfold bare at h1;rw[if_neg h,eV,eV,c,Nat.zero_mul] at h1;have h2:0<t.n*2^ (t.e+(t.e.natAbs:Int)).toNat:=Nat.mul_pos (Nat.pos_of_ne_zero h) (Nat.pow_pos (by omega));unfold sz at h1
   split at h1<;>omega
  rw[decide_eq_true this,Bool.and_true]
theorem sameL_bare {K:Nat}{a b:ak}{m:Int}(hm:1≤m)(ha: -(K:Int)≤a.e)(hb: -(K:Int)≤b.e):sameL (bare a) (bare b) m=true↔V K (aY a m false)=V K (aY b m false):=by
 unfold sameL;rw[←oQ a m false hm,←oQ b m false hm,OL ⟨_,rfl⟩ ⟨_,rfl⟩,beq_iff_eq];have e1:=(lE (K:=K) a m hm ha).2.2.1;have e2:=(lE (K:=K) b m hm hb).2.2.1;rw[oY (K:=K) (by have:=eL e1;omega) (by have:=eL e2;omega),sgn_zero,dw e1,dw e2];omega
end Go.Proofs.YtiakgfmlpdfhdaaGreatDoor

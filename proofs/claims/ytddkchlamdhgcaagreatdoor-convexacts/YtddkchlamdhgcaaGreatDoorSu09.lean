/-
  Texts laid together: Ref4, Shift, Ref5, Lk, Aw0, Co6, Co7, Co8, Co13, Co14, Co17, Co18, Gr1, Gr2, Cr1, Cr4, Gh3, Gr13, Co10, Co19, Ce3, Co20, Ce1, Ce10, Ce9, Cr5, Eg1, Nx2, Ar2, Ar4, Oq1, Bl1, Bl6, Eh1, Eh3.
-/
import Derived.Test.YtddkchlamdhgcaaGreatDoorSu02
import Derived.Test.YtddkchlamdhgcaaGreatDoorSu03
import Derived.Test.YtddkchlamdhgcaaGreatDoorSu04
set_option maxRecDepth 100000
set_option maxHeartbeats 3200000
namespace Go.Proofs.YtddkchlamdhgcaaGreatDoor
open _root_.Go.Proofs.Tryz
open Go.RowKit
theorem Yx {xs ys ps:List Nat}{k c:Nat}(h:abk xs ys ps k c)(hk: ¬(k<xs.length∨k<ys.length∨0<c)):ps=Dg.dg 65536 (Dg.vl 65536 xs+Dg.vl 65536 ys):=by
 obtain⟨h1,h2,h3,h4,h5⟩:=h;have hc:c=0:=by omega
 subst hc;rw[List.take_of_length_le (by omega),List.take_of_length_le (by omega)] at h4;refine Dg.eq_dg 65536 (by omega) _ _ h2 (Dg.norm_of_ge 65536 ps h2 (fun hne=> ?_)) (by omega)
 have:=h5 (by rw[←h1];exact List.length_pos_iff.2 hne);rw[h1];omega
theorem Y8 (P Q:Nat)(hP:0<P)(l:List Nat):Dg.vl (P*Q) (low P Q l)=Dg.vl (P*Q) l/P:=by
 induction l with
 |nil=>simp[low,Dg.vl]
 |cons y l ih=>
  simp only[low,Dg.vl,ih];rw[Vh P Q l];have e1:(y+P*Q*Dg.vl (P*Q) l)/P=y/P+Q*Dg.vl (P*Q) l:=by
   rw[Nat.mul_assoc,Nat.add_mul_div_left _ _ hP]
  rw[e1];generalize Dg.vl (P*Q) l=V;have e2:V % P*Q+P*Q*(V/P)=Q*V:=by
   have:=Nat.mod_add_div V P
   calc V % P*Q+P*Q*(V/P)=Q*(V % P+P*(V/P)):=by rw[Nat.mul_add,Nat.mul_comm (V % P),Nat.mul_comm P Q,Nat.mul_assoc]
    _=Q*V:=by rw[this]
  omega
theorem abL {xs ds:List Nat}{wh P Q:Nat}(h:abK xs ds wh P Q (xs.length-wh))(hw:wh≤xs.length)(hPQ:P*Q=4294967296)(sa:Dg.Small 4294967296 xs):
  Dg.Small 4294967296 ds∧Dg.vl 4294967296 ds=Dg.vl 4294967296 xs/(4294967296^wh*P):=by
 have hP:0<P:=by
  rcases Nat.eq_zero_or_pos P with e|e
  ·subst e;simp at hPQ
  ·exact e
 have he:ds=low P Q (xs.drop wh):=by
  apply Dg.eq_of_all
  ·rw[mA,h.1];simp
  ·intro j
   rw[h.2 j]
   by_cases hj:j<xs.length-wh
   ·rw[if_pos hj,Gb P Q _ j (by simpa using hj),ui,ui,Nat.add_assoc]
   ·rw[if_neg hj,Dg.getD_of_le _ _ (by rw[mA];simp;omega)]
 refine⟨fun j=> ?_, ?_⟩
 ·rw[h.2 j]
  split
  ·exact(I7 hPQ (sa _)).2
  ·omega
 ·rw[he,←hPQ,Y8 P Q hP,hPQ,←Nat.div_div_eq_div_mul]
  congr 1
  have hsp:=Dg.vl_take_drop 4294967296 xs wh hw;have hlt:=Dg.vl_lt 4294967296 (xs.take wh) (Dg.small_take sa _ (by omega));rw[List.length_take,Nat.min_eq_left hw] at hlt;rw[hsp,Nat.add_comm,Nat.mul_add_div (Nat.pow_pos (by omega)),Nat.div_eq_of_lt hlt,Nat.add_zero]
theorem xh {w:World}{base e:Nat}{g n cap m:Nat}{zs:List Nat}(h:Own w base e .i64 (.slice (some ⟨g,0,none⟩) n cap) zs)(hs:Dg.Small 65536 zs)(ht:Ou zs m)(hl:zs.length≤3000000):Rd w .i64 (.slice (some ⟨g,0,none⟩) m m) (Dg.dg 65536 (Dg.vl 65536 zs)):=
 uE 65536 (by omega) h.rd hs ht (Nat.le_refl _) (by have:=ht.1;unfold maxLen;omega)
theorem au.cs2 {w:World}{b:Nat}{ty:TypeId}{x0 x1:Value}{l:List Value}(h:au w b ty (x0::x1::l)):w.cell? ⟨b,0,none⟩=some x0∧w.cell? ⟨b,1,none⟩=some x1:=⟨h.c 0 rfl,h.c 1 rfl⟩
theorem au.cs8 {w:World}{b:Nat}{ty:TypeId}{x0 x1 x2 x3 x4 x5 x6 x7:Value}{l:List Value}(h:au w b ty (x0::x1::x2::x3::x4::x5::x6::x7::l)):w.cell? ⟨b,0,none⟩=some x0∧w.cell? ⟨b,1,none⟩=some x1∧w.cell? ⟨b,2,none⟩=some x2∧w.cell? ⟨b,3,none⟩=some x3∧w.cell? ⟨b,4,none⟩=some x4∧w.cell? ⟨b,5,none⟩=some x5∧w.cell? ⟨b,6,none⟩=some x6∧w.cell? ⟨b,7,none⟩=some x7:=⟨h.c 0 rfl,h.c 1 rfl,h.c 2 rfl,h.c 3 rfl,h.c 4 rfl,h.c 5 rfl,h.c 6 rfl,h.c 7 rfl⟩
theorem au.ne {w:World}{b c:Nat}{ty tz:TypeId}{vs us:List Value}(h:au w b ty vs)(g:au w c tz us)(hn:vs≠us∨ty≠tz):c≠b:=fun e=>by
 subst e;unfold au at h g;rw[h] at g;simp only[Option.some.injEq,Obj.cells.injEq] at g
 rcases hn with hn|hn
 ·exact hn (by simpa using congrArg Array.toList g.1)
 ·exact hn g.2.1
theorem t9 {w:World}{k:IntKind}{v:Value}{zs:List Nat}(h:Rd w k v zs){b:Nat}(hb:w.heap.size≤b):wF b v zs:=fun hp a n c hv=>by
 obtain⟨ao,cap,rfl,_,_,h3⟩:=h;obtain⟨g,off,rfl,hc⟩:=h3 hp
 cases hv
 have h0:=hc 0 hp
 show g≠b
 intro e;subst e;unfold World.cell? at h0;simp only at h0;rw[Array.getElem?_eq_none hb] at h0
 cases h0
theorem aX {w:World}{k:IntKind}{v:Value}{zs:List Nat}(h:Rd w k v zs){b:Nat}{ty:TypeId}{vs:List Value}(hl:au w b ty vs)(hv0: ∀x∈vs,∀n:Int,x≠ .int k n):wF b v zs:=fun hp a n c hv=>by
 obtain⟨ao,cap,rfl,_,_,h3⟩:=h;obtain⟨g,off,rfl,hc⟩:=h3 hp
 cases hv
 have h0:=hc 0 hp
 show g≠b
 intro e;subst e;unfold World.cell? at h0;simp only at h0;rw[hl] at h0;simp only[Option.isSome_none,Bool.false_eq_true,if_false,List.getElem?_toArray] at h0;exact hv0 _ (List.mem_of_getElem? h0) _ rfl
theorem Own.setE {w:World}{base e:Nat}{k:IntKind}{v:Value}{zs:List Nat}(h:Own w base e k v zs){b:Nat}{ty:TypeId}{vs:List Value}(hl:au w b ty vs)(hty:ty≠e)(i:Nat)(x:Value):Own (w.setCell ⟨b,i,none⟩ x) base e k v zs:=by
 obtain⟨h0,h2⟩:=h;refine⟨h0, ?_⟩
 rcases h2 with h2| ⟨g',cap',cur,hv,hbg,hh,r⟩
 ·exact .inl h2
 ·refine .inr ⟨g',cap',cur,hv,hbg, ?_,r⟩
  have hne:g'≠b:=by
   intro e;subst e;unfold au at hl;rw[hl] at hh;simp only[Option.some.injEq,Obj.cells.injEq] at hh;exact hty hh.2.1
  rw[Below.heap_setCell _ _ _ _ hne];exact hh
theorem afy {P:Program}{w0 w:World}{n b:Nat}{ty:TypeId}{z0 z1 z2:Value}{d:TypeDesc}(h:au w b ty [z0,z1,z2])(hb:Below n w0 w)(hn:n≤b)(hu:P.underlying ty=some d)(hd:d.isRow=true)(hi:(P.info? ty).map (·.size)=some 3)(v0 v1 v2:Value):
  (loadVar ty ⟨b,0,none⟩).run P (((w.setCell ⟨b,0,none⟩ v0).setCell ⟨b,1,none⟩ v1).setCell ⟨b,2,none⟩ v2)= .ok (.agg #[v0,v1,v2]) (((w.setCell ⟨b,0,none⟩ v0).setCell ⟨b,1,none⟩ v1).setCell ⟨b,2,none⟩ v2)∧Below n w0 (((w.setCell ⟨b,0,none⟩ v0).setCell ⟨b,1,none⟩ v1).setCell ⟨b,2,none⟩ v2)∧But b w (((w.setCell ⟨b,0,none⟩ v0).setCell ⟨b,1,none⟩ v1).setCell ⟨b,2,none⟩ v2):=by
 have cR:au (((w.setCell ⟨b,0,none⟩ v0).setCell ⟨b,1,none⟩ v1).setCell ⟨b,2,none⟩ v2) b ty [v0,v1,v2]:=(((h.set 0 v0).set 1 v1).set 2 v2);have bu:=((ag w b 0 v0).trans (ag _ b 1 v1)).trans (ag _ b 2 v2);exact⟨run_loadVar_mid (P:=P) _ b 0 ty [v0,v1,v2] _ cR.range hu hd hi,bu.below hb hn,bu⟩
theorem Ev {w:World}{base e:Nat}{g n cap:Nat}{zs:List Nat}(h:Own w base e .u8 (.slice (some ⟨g,0,none⟩) n cap) zs):ik w g zs:=
 ⟨fun i hi=>h.c i hi,fun i _=>h.f i,h.block.2⟩
theorem aa3 {zs cur:List Nat}{i:Nat}(h:WI zs cur i)(hi:2*i+1<zs.length):WI zs ((cur.set (2*i) (cur.getD (2*i+1) 0)).set (2*i+1) (cur.getD (2*i) 0)) (i+1):=by
 obtain⟨h1,h3⟩:=h;refine⟨by simpa using h1,fun k hk=> ?_⟩
 rw[Dg.getD_set _ _ _ _ (by simp;omega),Dg.getD_set _ _ _ _ (by omega)]
 by_cases e1:2*i+1=k
 ·rw[if_pos e1,if_pos (by omega),h3 _ (by omega),if_neg (by omega),←e1]
  congr 1
  omega
 ·rw[if_neg e1]
  by_cases e2:2*i=k
  ·rw[if_pos e2,if_pos (by omega),h3 _ (by omega),if_neg (by omega),←e2]
   congr 1
   omega
  ·rw[if_neg e2,h3 k hk]
   by_cases e3:k<2*i
   ·rw[if_pos e3,if_pos (by omega)]
   ·rw[if_neg e3,if_neg (by omega)]
theorem ac1 {zs cur:List Nat}{i:Nat}(h:WI zs cur i)(hi:zs.length≤2*i):cur=Bg zs:=by
 obtain⟨h1,h3⟩:=h;apply List.ext_getElem (by rw[Cq];exact h1);intro k hk1 hk2;have hk:k<zs.length:=by omega
 have e1:cur.getD k 0=cur[k]:=by simp[List.getD_eq_getElem?_getD,hk1]
 have e2:(Bg zs).getD k 0=(Bg zs)[k]:=by simp only[List.getD_eq_getElem?_getD,List.getElem?_eq_getElem hk2,Option.getD_some]
 rw[←e1,←e2,h3 k hk,if_pos (by omega),Fl zs k hk]
theorem Cr (g cap:Nat)(zs:List Nat)(f c:Nat)(w:World)(hr:ik w g zs)(hs:Dg.Small 256 zs)(hc:c≤64)(hfc:f+c≤8*zs.length)(hl:zs.length≤1000):
  yC 114 #[.slice (some ⟨g,0,none⟩) zs.length cap,yi f,yi c] w fun e w'=>e= .returned (.int .u64 (eH zs f c:Nat))∧w'=w:=by
 go_enter func114,ntmps114
 go_wp2
 go_loop [7,8] (fun xv iv=> ∃j i x:Nat,Hid (i=f+j)∧j≤c∧iv=yi (i:Int)∧xv= .int .u64 (x:Int)∧Hid (x=eH zs f j)) (fun xv iv=>((f:Int)+c-intOf iv).toNat)
 case atStart=>exact⟨0,f,0,rfl,by omega,rfl,rfl,rfl⟩
 case round=>
  obtain⟨j,i,x,Hi,hj,rfl,rfl,hx⟩:=hrel;have hi:=Hi.out
  by_cases hjc:j<c
  ·obtain⟨q,hq⟩: ∃q,i/8=q:=⟨_,rfl⟩
   obtain⟨r,hr'⟩: ∃r,i % 8=r:=⟨_,rfl⟩;have hqI:(i:Int)/8=(q:Int):=by omega
   have hrI:(i:Int) % 8=(r:Int):=by omega
   have hcell:=hr.c q (by omega);have hsm:=hs q;obtain⟨y,hy⟩: ∃y,zs.getD q 0=y:=⟨_,rfl⟩;rw[hy] at hcell hsm;have hql:q<zs.length:=by omega
   have hr8:r<8:=by omega
   have HH:Hid (_∧_∧_∧_):=⟨hi,hq,hr',hy⟩;have hic:(i:Int)< (f:Int)+(c:Int):=by omega
   have hib:(i:Int)≤8000:=by omega
   clear hi hq hr' hy
   go_wp2
   obtain⟨hi,hq,hr',hy⟩:=HH.out;have hxl:=gh zs f j;have hpw:(2:Nat)^j≤2^63:=Nat.pow_le_pow_right (by omega) (by omega);refine⟨⟨j+1,i+1,2*x+y/2^ (7-r) % 2, ?_,by omega,rfl, ?_, ?_⟩, ?_⟩
   ·show i+1=f+(j+1)
    omega
   ·rw[XO x y r (by have:=hx.out;omega) hsm]
   ·show 2*x+y/2^ (7-r) % 2=eH zs f (j+1)
    have:=hx.out;rw[eH,←this,fU,←hi,hq,hr',hy]
   ·simp only[intOf]
    omega
  ·have hd: ¬((i:Int)< (f:Int)+(c:Int)):=by omega
   have hjc':j=c:=by omega
   have HX:Hid (_∧_):=⟨hx.out,hjc'⟩;have hib:(i:Int)≤8000:=by omega
   clear hi hjc'
   go_wp2
   go_ret
   obtain⟨h1,h2⟩:=HX.out;subst h1 h2;exact⟨rfl,rfl⟩
theorem nM (k:Nat)(zs:List Nat):(jT k zs).length=zs.length:=by
 unfold jT
 split
 ·simp
 ·split
  ·exact Cq zs
  ·rfl
def wG (k:Nat)(s:ByteArray):List Nat:=jT k (jr s)
def aZ (k:Nat)(s:ByteArray):Bool:=decide (eH (wG k s) 0 1=1)
def aR (k:Nat)(s:ByteArray):Nat:=eH (wG k s) 1 (exN k)
def aU (k:Nat)(s:ByteArray):Nat:=eH (wG k s) (1+exN k) (frN k)
theorem kg {P:Program}{fn:Func}{a b t:Nat}{ta tb:TypeId}{tmps:Array Value}{w:World}{ba bb:Nat}{va vb u:Value}(hres:fn.results= #[.cell a ta,.cell b tb,.tmp t])(ha:tmps.getD a undef= .pointer (some ⟨ba,0,none⟩))(hb:tmps.getD b undef= .pointer (some ⟨bb,0,none⟩))(hu:tmps.getD t undef=u)(hla:(loadVar ta ⟨ba,0,none⟩).run P w= .ok va w)(hlb:(loadVar tb ⟨bb,0,none⟩).run P w= .ok vb w):(results fn tmps).run P w= .ok (.tuple #[va,vb,u]) w:=by
 rw[Array.getD_eq_getD_getElem?] at ha hb hu;unfold results;simp[hres,ha,hb,hu,asAddr,hla,hlb]
def bM (n:Int)(s:ByteArray):Nat:=if dF n s=0 then dh n.toNat (aZ n.toNat s) (aR n.toNat s) (aU n.toNat s) else 0
def dz (n:Int)(s:ByteArray):Bool:=if dF n s=0 then kt n.toNat (aZ n.toNat s) (aR n.toNat s) (aU n.toNat s) else false
theorem tY (R D L G:Int)(gr:Bool)(w:World):
  yC 98 #[ygV R D L G gr] w (yR w (yi (xg R))):=by
 have bA:=af w (.cells (ygA R D L G gr) 133);unfold xg
 by_cases h:R=16
 ·rw[if_pos h]
  subst h
  go_enter func98,ntmps98
  go_wp2
  go_ret
  exact⟨rfl,bA⟩
 ·rw[if_neg h]
  have e:(R==16)=false:=by simp;exact h
  go_enter func98,ntmps98
  go_wp2
  go_ret
  exact⟨rfl,bA⟩
theorem MY (qs:Bool)(ao:Option Addr)(ca la:Nat)(bo:Option Addr)(cb lb:Nat)(E R D L G:Int)(gr:Bool)(cx cy:Int)(fe:Bool)(gc:Int)(w:World)
  (H1: ∀w1,yB w w1→yC 58 #[.slice ao la ca] w1 fun z w'=>z= .returned (yi cx)∧w'=w1)
  (H2: ∀w1,yB w w1→yC 58 #[.slice bo lb cb] w1 fun z w'=>z= .returned (yi cy)∧w'=w1)
  (H3: ∀w1,yC 88 #[yi E,yi 20000] w1 fun z w'=>z= .returned (.bool fe)∧w'=w1)
  (H4:yJ 89 #[ygV R D L G gr] (yi gc)):
  yC 62 #[yrV qs (.slice ao la ca) (.slice bo lb cb) E,ygV R D L G gr] w (yR w (yi (nL cx cy lb fe gc))):=by
 replace H1:Hid _:=H1;replace H2:Hid _:=H2;replace H3:Hid _:=H3;replace H4:Hid _:=H4;have b1:=aa (af w (.cells (yrA qs (.slice ao la ca) (.slice bo lb cb) E) 84)) (af _ (.cells (ygA R D L G gr) 40))
 by_cases hx:cx=0
 ·subst hx
  by_cases hy:cy=0
  ·subst hy
   by_cases hl:lb=0
   ·subst hl
    rw[show nL 0 0 0 fe gc=3 from by unfold nL;simp]
    go_enter func62,ntmps62
    go_wp2_with fail
    refine(H1.out _ b1).mono ?_;rintro z w2 ⟨rfl,rfl⟩
    go_wp2_with fail
    refine(H2.out _ b1).mono ?_;rintro z w2 ⟨rfl,rfl⟩
    go_wp2
    go_ret
    exact⟨rfl,b1⟩
   ·have hlf:((lb:Int)==0)=false:=by simp;exact hl
    cases fe
    ·rw[show nL 0 0 lb false gc=gc from by unfold nL;simp[hl]]
     go_enter func62,ntmps62
     go_wp2_with fail
     refine(H1.out _ b1).mono ?_;rintro z w2 ⟨rfl,rfl⟩
     go_wp2_with fail
     refine(H2.out _ b1).mono ?_;rintro z w2 ⟨rfl,rfl⟩
     go_wp2_with fail
     refine(H3.out _).mono ?_;rintro z w2 ⟨rfl,rfl⟩
     go_wp2_with fail
     refine(H4.out _).mono ?_;rintro z w4 ⟨rfl,b4⟩;have b04:=aa b1 b4
     go_wp2
     go_ret
     exact⟨rfl,b04⟩
    ·rw[show nL 0 0 lb true gc=3 from by unfold nL;simp]
     go_enter func62,ntmps62
     go_wp2_with fail
     refine(H1.out _ b1).mono ?_;rintro z w2 ⟨rfl,rfl⟩
     go_wp2_with fail
     refine(H2.out _ b1).mono ?_;rintro z w2 ⟨rfl,rfl⟩
     go_wp2_with fail
     refine(H3.out _).mono ?_;rintro z w2 ⟨rfl,rfl⟩
     go_wp2
     go_ret
     exact⟨rfl,b1⟩
  ·have hyf:(cy==0)=false:=by simp;exact hy
   rw[show nL 0 cy lb fe gc=cy from by unfold nL;simp[hy]]
   go_enter func62,ntmps62
   go_wp2_with fail
   refine(H1.out _ b1).mono ?_;rintro z w2 ⟨rfl,rfl⟩
   go_wp2_with fail
   refine(H2.out _ b1).mono ?_;rintro z w2 ⟨rfl,rfl⟩
   go_wp2
   go_ret
   exact⟨rfl,b1⟩
 ·have hxf:(cx==0)=false:=by simp;exact hx
  rw[show nL cx cy lb fe gc=cx from by unfold nL;simp[hx]]
  go_enter func62,ntmps62
  go_wp2_with fail
  refine(H1.out _ b1).mono ?_;rintro z w2 ⟨rfl,rfl⟩
  go_wp2
  go_ret
  exact⟨rfl,b1⟩
theorem aaI (v:Value)(n:Nat)(w:World)(h:Rd w .u32 v (Dg.dg 4294967296 n)):yC 101 #[v] w fun z w'=>z= .returned (.bool (decide (n % 2=1)))∧w'=w:=by
 have hh:=Sb 4294967296 n (by omega);have hnl:=Dg.dg_nil_iff 4294967296 n (by omega);obtain⟨ao,ca,rfl⟩:=h.shape;obtain⟨h1,h2,h3⟩:=iQ h;have hm2:n % 4294967296 % 2=n % 2:=by omega
 obtain⟨m,hm⟩: ∃m,n % 4294967296=m:=⟨_,rfl⟩;rw[hm] at hh hm2;have hml:m<4294967296:=by omega
 by_cases h0:n=0
 ·have hl:(Dg.dg 4294967296 n).length=0:=by rw[List.length_eq_zero_iff];exact hnl.2 h0
  rw[hl];have hd:decide (n % 2=1)=false:=by rw[h0];rfl
  rw[hd];clear h0 hh hm2 hm hml hnl h1 h2 h3 h hl hd
  go_enter func101,ntmps101
  go_wp2
  go_ret
  exact⟨rfl,rfl⟩
 ·have hl:0< (Dg.dg 4294967296 n).length:=by
   rcases Nat.eq_zero_or_pos (Dg.dg 4294967296 n).length with h4|h4
   ·exact absurd (hnl.1 (List.length_eq_zero_iff.1 h4)) h0
   ·exact h4
  obtain⟨b,off,rfl,hc⟩:=h3 hl;have c0:=hc 0 hl;rw[hh,Nat.add_zero] at c0;obtain⟨L,hL⟩: ∃L,(Dg.dg 4294967296 n).length=L:=⟨_,rfl⟩;rw[hL] at hl h1⊢;have hl0:(0:Int)< (L:Int):=by omega
  have ht:(m:Int).tmod 2=((m % 2:Nat):Int):=by
   rw[Int.tmod_eq_emod_of_nonneg (by omega)];omega
  have ht2:(m:Int) % 2=((m % 2:Nat):Int):=by omega
  clear hc h3 hL hh hm hnl h
  by_cases hodd:n % 2=1
  ·have e1:m % 2=1:=by omega
   rw[e1] at ht ht2
   go_enter func101,ntmps101
   go_wp2
   go_ret
   simp[hodd]
  ·have e1:m % 2=0:=by omega
   rw[e1] at ht ht2
   go_enter func101,ntmps101
   go_wp2
   go_ret
   simp[hodd]
theorem Kh (k:Nat)(zs:List Nat)(i:Nat)(hk:zs.length=szN k)(hi:i<zs.length):(jT k zs).getD i 0=zs.getD (plN k i) 0:=by
 unfold jT plN
 by_cases h3:k=3
 ·rw[if_pos h3,if_pos h3,List.getD_eq_getElem?_getD,List.getElem?_reverse hi,←List.getD_eq_getElem?_getD,hk]
 ·rw[if_neg h3,if_neg h3]
  by_cases h6:6≤k
  ·rw[if_pos h6,if_pos h6,Fl zs i hi]
  ·rw[if_neg h6,if_neg h6]
theorem sM (n:Int)(sz ex fr:Nat)(R D L G fam:Int)(gr:Bool)(i:Nat)(w:World)(hi:i<sz)(hsz:sz≤10)
  (HF:yJ 18 #[yi n] (.tuple #[yhV sz ex fr R D L G gr fam,.bool true])):
  yC 73 #[yi n,yi i] w (yR w (yi (if n=3 then sz-1-i else if fam=3 then i+1-2*((i:Int) % 2) else i))):=by
 have HF':Hid _:=HF;clear HF
 by_cases h3:n=3
 ·subst h3
  rw[if_pos rfl]
  go_enter func73,ntmps73
  go_wp2_with fail
  refine(HF'.out _).mono ?_;rintro z w1 ⟨rfl,b1⟩
  go_wp2
  go_ret
  exact⟨by go_num,aa b1 (af _ _)⟩
 ·have hn:(n==3)=false:=by simpa using h3
  rw[if_neg h3]
  by_cases hf:fam=3
  ·subst hf
   rw[if_pos rfl];clear h3
   go_enter func73,ntmps73
   go_wp2_with fail
   refine(HF'.out _).mono ?_;rintro z w1 ⟨rfl,b1⟩
   go_wp2
   go_ret
   exact⟨by go_num,aa b1 (af _ _)⟩
  ·have hfb:(fam==3)=false:=by simpa using hf
   rw[if_neg hf];clear h3 hf
   go_enter func73,ntmps73
   go_wp2_with fail
   refine(HF'.out _).mono ?_;rintro z w1 ⟨rfl,b1⟩
   go_wp2
   go_ret
   exact⟨rfl,aa b1 (af _ _)⟩
structure TG (w:World) (bn bf:Nat) (ng:Bool) (fv:List Value) (v:Value) (m:Nat) (w':World):Prop where
 q:au w' w.heap.size 32 (yoL 0 false false yN 0)
 f:au w' bf 51 fv
 n:w'.cell? ⟨bn,0,none⟩=some (.bool ng)
 b:yB w w'
 r:Rd w' .i64 v (Dg.dg 65536 m)
def Xn (w:World)(s9 s10:Value)(hd:Bool)(rd:Nat)(rk:Int)(wx:World):Prop:=
 ∃pb so sc,s9= .pointer (some ⟨pb,0,none⟩)∧s10= .bool hd∧w.heap.size+1+1≠pb∧w.heap.size≤pb∧au wx pb 145 [yT so rd sc,yi rk]∧Own wx w.heap.size 135 .u32 (yT so rd sc) (Dg.dg 4294967296 rd)∧au wx (w.heap.size+1+1) 145 [yN,yi 0]∧yB w wx
theorem Is {w wb:World}{hd:Bool}{rd:Nat}{rk:Int}{so:Option Addr}{sc nb:Nat}(hc:au wb (w.heap.size+1+1) 145 [yN,yi 0])(hn:au wb nb 145 [yN,yi 0])(ho:Own wb w.heap.size 135 .u32 (yT so rd sc) (Dg.dg 4294967296 rd))(hb:yB w wb)(h1:w.heap.size+1+1≠nb)(h2:w.heap.size≤nb):
  Xn w (.pointer (some ⟨nb,0,none⟩)) (.bool hd) hd rd rk ((wb.setCell ⟨nb,0,none⟩ (yT so rd sc)).setCell ⟨nb,1,none⟩ (yi rk)):=by
 have bu:=(ag wb nb 0 (yT so rd sc)).trans (ag _ nb 1 (yi rk));exact⟨nb,so,sc,rfl,rfl,h1,h2,(hn.set 0 _).set 1 _,bu.own ho hn (by decide),bu.loc hc h1,bu.below hb h2⟩
theorem nh (R D L G:Int)(gr:Bool)(w:World):
  yC 22 #[ygV R D L G gr] w (yR w (yi (xg R))):=by
 have bA:=af w (.cells (ygA R D L G gr) 40);unfold xg
 by_cases h:R=16
 ·rw[if_pos h]
  subst h
  go_enter func22,ntmps22
  go_wp2
  go_ret
  exact⟨rfl,bA⟩
 ·rw[if_neg h]
  have e:(R==16)=false:=by simp;exact h
  go_enter func22,ntmps22
  go_wp2
  go_ret
  exact⟨rfl,bA⟩
def iS (f:Nat):Nat→Nat→List Nat→List Nat
 |0,_,zs=>zs
 |c+1,x,zs=>iS f c (x/2) (zs.set ((f+c)/8) (zs.getD ((f+c)/8) 0|||x % 2*2^ (7-(f+c) % 8)))
theorem Io {B:Nat}{zs:List Nat}(h:Dg.Small B zs)(i x:Nat)(hx:x<B):Dg.Small B (zs.set i x):=by
 intro k
 by_cases hk:i<zs.length
 ·rw[Dg.getD_set _ _ _ _ hk]
  by_cases e:i=k
  ·rw[if_pos e];exact hx
  ·rw[if_neg e];exact h k
 ·rw[List.set_eq_of_length_le (by omega)]
  exact h k
theorem il (f:Nat): ∀(c x:Nat) (zs:List Nat),(iS f c x zs).length=zs.length
 |0,_,_=>rfl
 |c+1,x,zs=>by rw[iS,il f c];exact List.length_set
theorem mj (f:Nat): ∀(c x:Nat) (zs:List Nat),Dg.Small 256 zs→Dg.Small 256 (iS f c x zs)
 |0,_,_,h=>h
 |c+1,x,zs,h=>by
  rw[iS];exact mj f c _ _ (Io h _ _ (Nat.or_lt_two_pow (n:=8) (h _) (Cf _ _)))
theorem vi {P:Program}{w:World}{e g cap:Nat}{zs:List Nat}(src dst:TypeId)(hs:P.underlying src=some (.slice e))(he:P.underlying e=some (.int .u8))(hd:P.underlying dst=some .string)
  (h:ik w g zs):(convert src dst (.slice (some ⟨g,0,none⟩) zs.length cap)).run P w= .ok (.string (cF zs)) w:=by
 rw[run_convert_bytes_string w src dst e _ _ _ hs he hd];have hl:=run_loadCells_list (P:=P) w ⟨g,0,none⟩ (zs.map (fun n:Nat=>Value.int .u8 (n:Int))) (by
  intro j u hj;have hjl:j<zs.length:=by have:=(List.getElem?_eq_some_iff.1 hj).1;simpa using this
  rw[j9 _ zs j hjl] at hj;rw[rO,Nat.zero_add,h.c j hjl];exact hj)
 rw[List.length_map] at hl;have:=run_bytesToString (P:=P) w ⟨g,0,none⟩ zs.length cap (zs.map (fun n:Nat=>(n:Int))) (by
  rw[hl];simp)
 rw[this,Iu];simp[cF]
def kU (k:Nat)(ng:Bool)(e f:Nat):List Nat:=jT k (iS (1+exN k) (frN k) f (iS 1 (exN k) e (if ng then iS 0 1 1 (List.replicate (szN k) 0) else List.replicate (szN k) 0)))
theorem Mx (k:Nat)(ng:Bool)(e f:Nat):(kU k ng e f).length=szN k:=by
 unfold kU;rw[nM,il,il]
 split
 ·rw[il,List.length_replicate]
 ·rw[List.length_replicate]
def byL (bf:Nat→Bool)(n:Nat):List Nat:=(List.range n).map fun i=>jY (fun j=>bf (8*i+j)) 8
theorem xT (bf:Nat→Bool)(n:Nat):(byL bf n).length=n:=by simp[byL]
theorem JB (bf:Nat→Bool)(n i:Nat)(h:i<n):(byL bf n).getD i 0=jY (fun j=>bf (8*i+j)) 8:=by
 simp[byL,List.getD_eq_getElem?_getD,h]
structure XU (w:World) (lv:List Value) (w':World):Prop where
 ly:au w' w.heap.size 116 lv
 m:au w' (w.heap.size+1) 119 (yfL false 0 0)
 b:yB w w'
theorem XF (va:Value)(xs:List Nat)(w:World)(ha:Rd w .u32 va xs)(sa:Dg.Small 4294967296 xs)(hl:xs.length≤2):
  yC 65 #[va] w fun z w'=>z= .returned (.int .u64 ((Dg.vl 4294967296 xs:Nat):Int))∧w'=w:=by
 obtain⟨ao,ca,rfl,-,-,hca⟩:=ha
 go_enter func65,ntmps65
 go_wp2
 go_loop [3,4] (fun xv iv=> ∃j x:Nat,j≤xs.length∧iv=yi ((j:Int)-1)∧xv= .int .u64 (x:Int)∧Hid (x=Dg.vl 4294967296 (xs.drop j))) (fun _ iv=>(intOf iv+1).toNat)
 case atStart=>exact⟨xs.length,0,Nat.le_refl _,by go_num,rfl,by rw[List.drop_of_length_le (Nat.le_refl _)];rfl⟩
 case round=>
  obtain⟨j,x,hj,rfl,rfl,HX⟩:=hrel
  by_cases h0:0<j
  ·obtain⟨i,rfl⟩: ∃i,j=i+1:=⟨j-1,by omega⟩
   rw[show((i+1:Nat):Int)-1=(i:Int) from by omega]
   obtain⟨b,off,rfl,hcell⟩:=hca (by omega);have hc:=hcell i (by omega);have hs:=sa i;have hx:=HX.out;have hxl:x<4294967296:=by
    have h1:=Dg.vl_lt 4294967296 (xs.drop (i+1)) (fun k=>by
     rw[List.getD_eq_getElem?_getD,List.getElem?_drop,←List.getD_eq_getElem?_getD];exact sa _)
    rw[←hx,List.length_drop] at h1;have h2:(4294967296:Nat)^ (xs.length-(i+1))≤4294967296^1:=Nat.pow_le_pow_right (by omega) (by omega);omega
   have hst:Dg.vl 4294967296 (xs.drop i)=xs.getD i 0+4294967296*x:=by
    rw[hx,List.drop_eq_getElem_cons (show i<xs.length by omega),Dg.vl]
    simp[List.getD_eq_getElem?_getD,show i<xs.length by omega]
   obtain⟨a,ea⟩: ∃a,xs.getD i 0=a:=⟨_,rfl⟩;rw[ea] at hc hs hst;have hil:i<xs.length:=by omega
   have HST:Hid _:=hst;clear ea hst hx hcell hca HX
   go_wp2
   have hst:=HST.out;refine⟨⟨i,a+4294967296*x,by omega,rfl, ?_,hst.symm⟩, ?_⟩
   ·rw[TZ x a hxl hs]
   ·simp only[intOf]
    omega
  ·have hd: ¬((0:Int)≤(j:Int)-1):=by omega
   have HJ:Hid (j=0):=(by omega:j=0)
   go_wp2
   go_ret
   have h1:=HJ.out;subst h1;have:=HX.out;rw[List.drop_zero] at this;rw[←this];exact⟨rfl,rfl⟩
theorem xD {w:World}{q:Nat}(h:w.cell? ⟨q,0,none⟩=some (.int .u32 1)):Rd w .u32 (.slice (some ⟨q,0,none⟩) 1 1) [1]:=
 ⟨_,1,rfl,Nat.le_refl _,by unfold maxLen;omega,fun _=>⟨q,0,rfl,fun i hi=>by
  obtain rfl:i=0:=by simpa using hi
  exact h⟩⟩
theorem Hm (zs:List Nat)(hs:Dg.Small 256 zs):jr (cF zs)=zs:=by
 unfold jr cF;apply List.ext_getElem (by simp);intro p hp1 hp2;have h:=hs p;rw[List.getD_eq_getElem?_getD,List.getElem?_eq_getElem hp2,Option.getD_some] at h;simp;exact h
theorem Uh (bf:Nat→Bool)(n:Nat):Dg.Small 256 (byL bf n):=by
 intro i
 by_cases h:i<n
 ·rw[JB bf n i h]
  exact DZ _ 8
 ·rw[List.getD_eq_getElem?_getD,List.getElem?_eq_none (by rw[xT];omega)]
  simp
theorem fS (zs:List Nat):(cF zs).size=zs.length:=by
 unfold cF
 show(zs.map (fun n=>UInt8.ofNat n)).toArray.size=_
 simp
structure zQ (w:World) (bn bf:Nat) (ng:Bool) (fv:List Value) (w':World):Prop where
 q:au w' w.heap.size 32 (yoL 0 false false yN 0)
 f:au w' bf 51 fv
 n:au w' bn 4 [.bool ng]
 b:yB w w'
structure EnF (w:World) (bf:Nat) (vv fl:List Value) (W:World):Prop where
 v:au W w.heap.size 68 vv
 z:au W (w.heap.size+1) 32 (yoL 0 false false yN 0)
 f:au W bf 51 fl
 b:yB w W
theorem EnF.lt {w W:World}{bf:Nat}{vv fl:List Value}(h:EnF w bf vv fl W):w.heap.size+1<W.heap.size∧bf<W.heap.size:=⟨h.z.lt,h.f.lt⟩
def nxT (k:Nat)(s:ByteArray):ak:=ji k (aZ k s) (aR k s) (aU k s)
def opT (n:Int)(p:ByteArray):ak:=if dF n p=0 then nxT n.toNat p else⟨false,0,0⟩
def opC (n : Int) (p : ByteArray) (v : Value) : List Value := [.int .i64 ((bM n p : Nat) : Int), .bool (dz n p), .bool (opT n p).s, v, .int .i64 (opT n p).e]
def F7 (w:World)(n:Int)(g:Option Nat)(p:ByteArray)(v:Value):Prop:=
 (∃so sc,v= .slice so (Dg.dg 4294967296 (opT n p).n).length sc)∧Rd w .u32 v (Dg.dg 4294967296 (opT n p).n)∧ ∀b,g=some b→wF b v (Dg.dg 4294967296 (opT n p).n)
def sV (w:World)(n:Int)(g:Option Nat):List ByteArray→List Value→Prop
 | [],cs=>cs=[]
 |p::ps,cs=> ∃v rest,cs=opC n p v++rest∧F7 w n g p v∧sV w n g ps rest
theorem sV.mono {w w':World}{n:Int}{g g':Option Nat}(h: ∀p v,F7 w n g p v→F7 w' n g' p v): ∀{ps:List ByteArray} {cs:List Value},sV w n g ps cs→sV w' n g' ps cs
 | [],_,hc=>hc
 |p::_,_,hc=>by
  obtain⟨v,rest,h1,h2,h3⟩:=hc;exact⟨v,rest,h1,h p v h2,sV.mono h h3⟩
theorem sV.snoc {w:World}{n:Int}{g:Option Nat}{p:ByteArray}{v:Value}(hv:F7 w n g p v): ∀{ps:List ByteArray} {cs:List Value},sV w n g ps cs→sV w n g (ps++[p]) (cs++opC n p v)
 | [],cs,hc=>by
  have:cs=[]:=hc;subst this;exact⟨v,[],by simp,hv,rfl⟩
 |q::_,_,hc=>by
  obtain⟨u,rest,h1,h2,h3⟩:=hc;subst h1;exact⟨u,rest++opC n p v,by simp,h2,sV.snoc hv h3⟩
structure sF (w:World) (n:Int) (ps:List ByteArray) (g cap:Nat):Prop where
 fit:ps.length≤cap
 most:cap≤maxLen
 each: ∀(i:Nat) p,ps[i]? =some p→ ∃so sc,w.rangeAt g (i*5) (opC n p (.slice so (Dg.dg 4294967296 (opT n p).n).length sc))∧Rd w .u32 (.slice so (Dg.dg 4294967296 (opT n p).n).length sc) (Dg.dg 4294967296 (opT n p).n)
def rfT (n:Int)(p:ByteArray):ak:=ji n.toNat (aZ n.toNat p) (aR n.toNat p) (aU n.toNat p)
def Gw (w:World)(n:Int)(g:Option Nat)(p:ByteArray)(v:Value):Prop:=
 (∃so sc,v= .slice so (Dg.dg 65536 (rfT n p).n).length sc)∧Rd w .i64 v (Dg.dg 65536 (rfT n p).n)∧ ∀b,g=some b→wF b v (Dg.dg 65536 (rfT n p).n)
def mL (w:World)(b:Nat)(v0 v1 v2 v3 v4 v5:Value):Prop:=
 b<w.heap.size∧(w.cell? ⟨b,0,none⟩=some v0∧w.cell? ⟨b,1,none⟩=some v1∧w.cell? ⟨b,2,none⟩=some v2∧w.cell? ⟨b,3,none⟩=some v3∧w.cell? ⟨b,4,none⟩=some v4∧w.cell? ⟨b,5,none⟩=some v5)∧
  (w.frozen? ⟨b,0,none⟩=false∧w.frozen? ⟨b,1,none⟩=false∧w.frozen? ⟨b,2,none⟩=false∧w.frozen? ⟨b,3,none⟩=false∧w.frozen? ⟨b,4,none⟩=false∧w.frozen? ⟨b,5,none⟩=false)
def ZB6 (w:World)(b:Nat):Prop:=b<w.heap.size∧ ∃ty,w.heap[b]? =some (.cells #[.bool false,yN,yi 0,.bool false,yN,yi 0] ty (0,0))
def RowAt (w:World)(g:Option Nat)(v:Value)(zs:List Nat):Prop:=Rd w .u32 v zs∧ ∀b,g=some b→wF b v zs
theorem RowAt.new {w w':World}{g:Option Nat}{v:Value}{zs:List Nat}(h:Rd w' .u32 v zs)(hf:Far w.heap.size v)(hl: ∀b,g=some b→b<w.heap.size):RowAt w' g v zs:=
 ⟨h,fun b hb _ a n c hv=>by
  have:=hf a n c hv;have:=hl b hb;omega⟩
theorem row_own {w w':World}{g:Option Nat}{v:Value}{zs:List Nat}(h:Own w' w.heap.size 135 .u32 v zs)(hl: ∀b,g=some b→b<w.heap.size):RowAt w' g v zs:=RowAt.new h.rd (JH h) hl
end Go.Proofs.YtddkchlamdhgcaaGreatDoor

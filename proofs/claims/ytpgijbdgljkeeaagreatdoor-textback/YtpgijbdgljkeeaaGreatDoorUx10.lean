/-
  Texts laid together: Lk, Gr1, Gr3.
-/
import Derived.Test.YtpgijbdgljkeeaaGreatDoorUx06
set_option maxRecDepth 100000
set_option maxHeartbeats 1600000
namespace Go.Proofs.YtpgijbdgljkeeaaGreatDoor
open _root_.Go.Proofs.Tryz
open Go.RowKit
theorem au.drew {w:World}{b:Nat}{ty:TypeId}{vs:List Value}(h:au w b ty vs):au w.drew b ty vs:=h.l (Below.refl _ _).drew
theorem ah (w:World)(vs:List Value)(ty:TypeId):au (w.alloc (.cells vs.toArray ty)) w.heap.size ty vs:=heap_alloc_new _ _
theorem au.c {w:World}{b:Nat}{ty:TypeId}{vs:List Value}(h:au w b ty vs)(i:Nat){v:Value}(hv:vs[i]? =some v):w.cell? ⟨b,i,none⟩=some v:=by
 unfold World.cell?;simp only;rw[h]
 simpa using hv
theorem au.cs2 {w:World}{b:Nat}{ty:TypeId}{x0 x1:Value}{l:List Value}(h:au w b ty (x0::x1::l)):w.cell? ⟨b,0,none⟩=some x0∧w.cell? ⟨b,1,none⟩=some x1:=⟨h.c 0 rfl,h.c 1 rfl⟩
theorem au.cs5 {w:World}{b:Nat}{ty:TypeId}{x0 x1 x2 x3 x4:Value}{l:List Value}(h:au w b ty (x0::x1::x2::x3::x4::l)):w.cell? ⟨b,0,none⟩=some x0∧w.cell? ⟨b,1,none⟩=some x1∧w.cell? ⟨b,2,none⟩=some x2∧w.cell? ⟨b,3,none⟩=some x3∧w.cell? ⟨b,4,none⟩=some x4:=⟨h.c 0 rfl,h.c 1 rfl,h.c 2 rfl,h.c 3 rfl,h.c 4 rfl⟩
theorem au.f {w:World}{b:Nat}{ty:TypeId}{vs:List Value}(h:au w b ty vs)(i:Nat):w.frozen? ⟨b,i,none⟩=false:=by
 unfold World.frozen?;simp only;rw[h];simp
theorem au.set {w:World}{b:Nat}{ty:TypeId}{vs:List Value}(h:au w b ty vs)(i:Nat)(x:Value):au (w.setCell ⟨b,i,none⟩ x) b ty (vs.set i x):=by
 have hlt:=h.lt;have h':w.heap[b]= .cells vs.toArray ty (0,0):=by simpa[au,Array.getElem?_eq_getElem hlt] using h
 show(w.heap.modify b _)[b]? =_
 rw[Array.getElem?_eq_getElem (by simpa using hlt),Array.getElem_modify_self,h'];simp
theorem au.off {w:World}{b c:Nat}{ty:TypeId}{vs:List Value}(h:au w b ty vs)(hne:c≠b)(i:Nat)(x:Value):au (w.setCell ⟨c,i,none⟩ x) b ty vs:=by
 unfold au;rw[Below.heap_setCell _ _ _ _ (fun e=>hne e.symm)]
 exact h
def wF (b:Nat)(v:Value)(zs:List Nat):Prop:=0<zs.length→ ∀a n c,v= .slice (some a) n c→a.block≠b
theorem Rd.set {w:World}{k:IntKind}{v:Value}{zs:List Nat}(h:Rd w k v zs){b:Nat}(ho:wF b v zs)(i:Nat)(x:Value):Rd (w.setCell ⟨b,i,none⟩ x) k v zs:=by
 obtain⟨ao,cap,rfl,h1,h2,h3⟩:=h;refine⟨ao,cap,rfl,h1,h2,fun hp=> ?_⟩
 obtain⟨g,off,rfl,hc⟩:=h3 hp;have hne:=ho hp _ _ _ rfl;refine⟨g,off,rfl,fun j hj=> ?_⟩
 have hne2:g≠b:=hne;unfold World.cell?;simp only;rw[Below.heap_setCell _ _ _ _ hne2];exact hc j hj
theorem Own.setE {w:World}{base e:Nat}{k:IntKind}{v:Value}{zs:List Nat}(h:Own w base e k v zs){b:Nat}{ty:TypeId}{vs:List Value}(hl:au w b ty vs)(hty:ty≠e)(i:Nat)(x:Value):Own (w.setCell ⟨b,i,none⟩ x) base e k v zs:=by
 obtain⟨h0,h2⟩:=h;refine⟨h0, ?_⟩
 rcases h2 with h2| ⟨g',cap',cur,hv,hbg,hh,r⟩
 ·exact .inl h2
 ·refine .inr ⟨g',cap',cur,hv,hbg, ?_,r⟩
  have hne:g'≠b:=by
   intro e;subst e;unfold au at hl;rw[hl] at hh;simp only[Option.some.injEq,Obj.cells.injEq] at hh;exact hty hh.2.1
  rw[Below.heap_setCell _ _ _ _ hne];exact hh
theorem C7 (R D L G:Int)(gr:Bool)(n:Nat)(w:World)(hn:n≤1000):
  yC 223 #[ygV R D L G gr,yi n] w (Num w (2^ (ai R*n))):=by
 have b1:=af w (.cells (ygA R D L G gr) 202);have b2:=aa b1 (af _ (.cells #[.int .u32 ((1:Nat):Int)] 138));have r2:=cE (w:=w.alloc (.cells (ygA R D L G gr) 202)) (k:= .u32) (e:=138) [1] #[.int .u32 ((1:Nat):Int)] rfl (by unfold maxLen;simp);rw[World.size_alloc] at r2;have HW:Hid (yJ 170 #[ygV R D L G gr] (yi (xg R))):=fun w1=>tY R D L G gr w1
 have hwl:=eN R;rw[jf] at HW;obtain⟨wd,hwd⟩: ∃k,ai R=k:=⟨_,rfl⟩;rw[hwd] at HW hwl⊢;have hml:wd*n≤4000:=Nat.le_trans (Nat.mul_le_mul hwl.2 hn) (by omega);have HS:Hid (∀v w1,Rd w1 .u32 v [1]→yC 75 #[v,yi ((wd:Int)*(n:Int))] w1 (Num w1 (2^ (wd*n)))):=fun v w1 r=>by
  have:=eO v [1] ((wd*n:Nat):Int) w1 r (Dg.small_cons.2 ⟨by omega,Dg.small_nil _ (by omega)⟩) (by simp) (by omega) (by omega);rw[CE _ _ (by omega),Int.toNat_natCast,show Dg.vl 4294967296 [1]=1 from rfl,Nat.one_mul] at this
  rwa [Int.natCast_mul] at this
 have hmi:(wd:Int)*(n:Int)≤4000:=by exact_mod_cast hml
 have hm0:0≤(wd:Int)*(n:Int):=by exact_mod_cast Nat.zero_le _
 have hw1:IntKind.i64.wrap ((wd:Int)*(n:Int))=(wd:Int)*(n:Int):=IntWalk.i64_in _ ⟨by omega,by omega⟩;clear hwd
 go_enter func223,ntmps223
 go_wp2_with fail
 refine(HW.out _).mono ?_;rintro z w3 ⟨rfl,b3⟩;have b03:=aa b2 b3;have r3:=r2.l b3;clear b1 b2 r2 b3
 go_wp2_with fail
 refine(HS.out _ _ r3).mono ?_;rintro z w4 ⟨v4,rfl,o4,b4⟩;have b04:=aa b03 b4;have o5:=o4.lower b03.size
 go_wp2
 go_ret
 exact⟨_,rfl,o5,b04⟩
theorem Ax (R D L G:Int)(gr:Bool)(w:World)(h1:1≤D)(h2:D≤120):
  yC 204 #[ygV R D L G gr] w (Num w (2^ (ai R*(D-1).toNat))):=by
 obtain⟨d,rfl⟩: ∃d:Nat,D=(d:Int)+1:=⟨(D-1).toNat,by omega⟩;have e0:((d:Int)+1-1).toNat=d:=by omega
 rw[e0];have b1:=af w (.cells (ygA R ((d:Int)+1) L G gr) 202);have HR:Hid (∀w1,yC 223 #[ygV R ((d:Int)+1) L G gr,yi d] w1 (Num w1 (2^ (ai R*d)))):=fun w1=>C7 R _ L G gr d w1 (by omega)
 go_enter func204,ntmps204
 go_wp2_with fail
 refine(HR.out _).mono ?_;rintro z w4 ⟨v4,rfl,o4,b4⟩;have b04:=aa b1 b4;have o5:=o4.lower b1.size
 go_wp2
 go_ret
 exact⟨_,rfl,o5,b04⟩
theorem MX (R D L G:Int)(gr:Bool)(w:World)(h1:1≤D)(h2:D≤120):
  yC 203 #[ygV R D L G gr] w (Num w (2^ (ai R*D.toNat))):=by
 obtain⟨d,rfl⟩: ∃d:Nat,D=(d:Int):=⟨D.toNat,by omega⟩;rw[Int.toNat_natCast];have b1:=af w (.cells (ygA R (d:Int) L G gr) 202);have HR:Hid (∀w1,yC 223 #[ygV R (d:Int) L G gr,yi d] w1 (Num w1 (2^ (ai R*d)))):=fun w1=>C7 R _ L G gr d w1 (by omega)
 go_enter func203,ntmps203
 go_wp2_with fail
 refine(HR.out _).mono ?_;rintro z w4 ⟨v4,rfl,o4,b4⟩;have b04:=aa b1 b4;have o5:=o4.lower b1.size
 go_wp2
 go_ret
 exact⟨_,rfl,o5,b04⟩
open Go.RowKit Go.ChangeMaps Go.MapKept
theorem sS {P:Program}{t k e:TypeId}(ht:P.underlying t=some (.map k e))(hk:P.underlying k=some (.int .i64)){w W:World}{r:Nat}{es:Array MapEntry}{c:Nat}(hb:W.heap[r]? =some (.map es c))(hr:w.heap.size≤r)(bel:yB w W)(x:Int)(v:Value)(hno:Instr.findNow (.int .i64) (yi x) es.toList 0=some none):
  ∃W',(Instr.mapUpdate t (.map (some r)) (yi x) v).run P W= .ok () W'∧W'.heap[r]? =some (.map (es.push ⟨yi x,v,c⟩) (c+1))∧yB w W':=by
 have hkey:IsKey (.int .i64) (yi x):=rfl;refine⟨setBlock W r (.map (es.push ⟨yi x,v,c⟩) (c+1)), ?_, ?_, ?_⟩
 ·simp[Instr.mapUpdate,run_underlying ht,MapKept.run_getObj_map hb,run_checkKey hk hkey,run_findKey hk hno,MapKept.run_setObj_map _ hb,Result.andThen,setBlock]
 ·exact(MapKept.heap_set hb).1
 ·refine⟨bel.os,bel.tape,bel.output, ?_,fun i hi=> ?_⟩
  ·show w.heap.size≤(W.heap.setIfInBounds r _).size
   rw[Array.size_setIfInBounds];exact bel.size
  ·show(W.heap.setIfInBounds r _)[i]? =_
   rw[(MapKept.heap_set (o':=Obj.map (es.push ⟨yi x,v,c⟩) (c+1)) hb).2 i (by omega)];exact bel.block i hi
theorem pj {P:Program}{t k e:TypeId}(ht:P.underlying t=some (.map k e))(hk:P.underlying k=some (.int .i64)){W:World}{r:Nat}{es:Array MapEntry}{c:Nat}(hb:W.heap[r]? =some (.map es c))(x:Int){i:Nat}{v:Value}(h:Instr.findNow (.int .i64) (yi x) es.toList 0=some (some (i,v))):
  (Instr.lookup t (.map (some r)) (yi x) false).run P W= .ok v W:=by
 have hkey:IsKey (.int .i64) (yi x):=rfl;simp[Instr.lookup,run_underlying ht,MapKept.run_getObj_map hb,run_checkKey hk hkey,run_findKey hk h,Result.andThen]
theorem Yc {P:Program}{t k e:TypeId}(ht:P.underlying t=some (.map k e))(hk:P.underlying k=some (.int .i64)){W:World}{r:Nat}{es:Array MapEntry}{c:Nat}(hb:W.heap[r]? =some (.map es c))(x:Int){z:Value}(hz:(zeroValue e).run P W= .ok z W)(h:Instr.findNow (.int .i64) (yi x) es.toList 0=some none):
  (Instr.lookup t (.map (some r)) (yi x) false).run P W= .ok z W:=by
 have hkey:IsKey (.int .i64) (yi x):=rfl;simp[Instr.lookup,run_underlying ht,MapKept.run_getObj_map hb,run_checkKey hk hkey,run_findKey hk h,hz,Result.andThen]
def Yd:Array MapEntry:= #[⟨yi 1,.func (.func 162) #[] #[],0⟩,⟨yi 2,.func (.func 163) #[] #[],1⟩,⟨yi 3,.func (.func 164) #[] #[],2⟩,⟨yi 4,.func (.func 165) #[] #[],3⟩,⟨yi 5,.func (.func 166) #[] #[],4⟩]
theorem Ye (w:World):yC 130 #[] w fun z w'=>z= .returned (.map (some w.heap.size))∧w'.heap[w.heap.size]? =some (.map Yd 5)∧yB w w':=by
 have ht:=underlying199;have hk:=underlying3;have hb0:(w.alloc (.map #[] 0)).heap[w.heap.size]? =some (.map #[] 0):=heap_alloc_new _ _;have b0:=af w (.map #[] 0);have e0:=run_makeMap (P:=Tryz.prog) 199 w;obtain⟨W1,e1,hb1,b1⟩:=sS ht hk hb0 (Nat.le_refl _) b0 1 (.func (.func 162) #[] #[]) rfl;obtain⟨W2,e2,hb2,b2⟩:=sS ht hk hb1 (Nat.le_refl _) b1 2 (.func (.func 163) #[] #[]) rfl;obtain⟨W3,e3,hb3,b3⟩:=sS ht hk hb2 (Nat.le_refl _) b2 3 (.func (.func 164) #[] #[]) rfl;obtain⟨W4,e4,hb4,b4⟩:=sS ht hk hb3 (Nat.le_refl _) b3 4 (.func (.func 165) #[] #[]) rfl;obtain⟨W5,e5,hb5,b5⟩:=sS ht hk hb4 (Nat.le_refl _) b4 5 (.func (.func 166) #[] #[]) rfl;have HB:Hid (W5.heap[w.heap.size]? =some (.map Yd 5)):=hb5;clear hb1 hb2 hb3 hb4 hb5 b1 b2 b3 b4 ht hk hb0
 go_enter func130,ntmps130
 go_wp2
 go_ret
 exact⟨rfl,HB.out,b5⟩
def gY (way half:Int)(odd neg:Bool):Bool:=
 if way=1 then(decide (0<half)||(decide (half=0)&&odd)) else if way=2 then decide (0≤half) else if way=4 then !neg else if way=5 then neg else false
theorem Yf (half:Int)(odd neg:Bool)(w:World):yC 162 #[.agg #[yi half,.bool odd,.bool neg]] w (yR w (.bool (gY 1 half odd neg))):=by
 have bA:=af w (.cells #[yi half,.bool odd,.bool neg] 233);have hv:gY 1 half odd neg=(decide (0<half)||(decide (half=0)&&odd)):=by simp[gY]
 rw[hv]
 by_cases h:0<half
 ·go_enter func162,ntmps162
  go_wp2
  go_ret
  exact⟨by simp[h],bA⟩
 ·have hf:decide (0<half)=false:=by simp;omega
  by_cases h0:half=0
  ·subst h0
   clear hv h hf
   go_enter func162,ntmps162
   go_wp2
   go_ret
   exact⟨by simp,bA⟩
  ·have h0f:(half==0)=false:=by simp;exact h0
   rw[hf,show decide (half=0)=false by simp;exact h0]
   clear hv
   go_enter func162,ntmps162
   go_wp2
   go_ret
   exact⟨by simp,bA⟩
theorem Yg (half:Int)(odd neg:Bool)(w:World):yC 163 #[.agg #[yi half,.bool odd,.bool neg]] w (yR w (.bool (gY 2 half odd neg))):=by
 have bA:=af w (.cells #[yi half,.bool odd,.bool neg] 233);have hv:gY 2 half odd neg=decide (0≤half):=by simp[gY]
 rw[hv];clear hv
 go_enter func163,ntmps163
 go_wp2
 go_ret
 exact⟨rfl,bA⟩
theorem Yh (half:Int)(odd neg:Bool)(w:World):yC 164 #[.agg #[yi half,.bool odd,.bool neg]] w (yR w (.bool (gY 3 half odd neg))):=by
 have hv:gY 3 half odd neg=false:=by simp[gY]
 have bA:=af w (.cells #[yi half,.bool odd,.bool neg] 233);rw[hv];clear hv
 go_enter func164,ntmps164
 go_wp2
 go_ret
 exact⟨rfl,bA⟩
theorem Yi (half:Int)(odd neg:Bool)(w:World):yC 165 #[.agg #[yi half,.bool odd,.bool neg]] w (yR w (.bool (gY 4 half odd neg))):=by
 have bA:=af w (.cells #[yi half,.bool odd,.bool neg] 233);have hv:gY 4 half odd neg= !neg:=by simp[gY]
 rw[hv];clear hv
 go_enter func165,ntmps165
 go_wp2
 go_ret
 exact⟨rfl,bA⟩
theorem Yj (half:Int)(odd neg:Bool)(w:World):yC 166 #[.agg #[yi half,.bool odd,.bool neg]] w (yR w (.bool (gY 5 half odd neg))):=by
 have bA:=af w (.cells #[yi half,.bool odd,.bool neg] 233);have hv:gY 5 half odd neg=neg:=by simp[gY]
 rw[hv];clear hv
 go_enter func166,ntmps166
 go_wp2
 go_ret
 exact⟨rfl,bA⟩
def io (R D:Int)(d:Nat):Nat:=if d=2^ (ai R*D.toNat) then 2^ (ai R*(D-1).toNat) else d
def gD (R D:Int)(d:Nat)(p:Int):Int:=if d=2^ (ai R*D.toNat) then p+1 else p
theorem Br (R D L G:Int)(gr:Bool)(v:Value)(d:Nat)(p:Int)(base:Nat)(w:World)(ho:Own w base 138 .u32 v (Dg.dg 4294967296 d))(hbs:base≤w.heap.size)(h1:1≤D)(h2:D≤120)(p1: -1000000≤p)(p2:p≤1000000):
  yC 171 #[ygV R D L G gr,.agg #[v,yi p]] w fun z w'=> ∃u,z= .returned (.agg #[u,yi (gD R D d p)])∧Own w' base 138 .u32 u (Dg.dg 4294967296 (io R D d))∧yB w w':=by
 obtain⟨ao,ca,hv⟩:=ho.rd.shape;subst hv;obtain⟨m,hm⟩: ∃m,(Dg.dg 4294967296 d).length=m:=⟨_,rfl⟩;have HE:Hid (∀w1,yC 203 #[ygV R D L G gr] w1 (Num w1 (2^ (ai R*D.toNat)))):=fun w1=>MX R D L G gr w1 h1 h2
 have HF:Hid (∀w1,yC 204 #[ygV R D L G gr] w1 (Num w1 (2^ (ai R*(D-1).toNat)))):=fun w1=>Ax R D L G gr w1 h1 h2
 obtain⟨X,hX⟩: ∃X,2^ (ai R*D.toNat)=X:=⟨_,rfl⟩;obtain⟨Y,hY⟩: ∃Y,2^ (ai R*(D-1).toNat)=Y:=⟨_,rfl⟩;rw[hX] at HE;rw[hY] at HF;have HCM:Hid (∀u w1,Rd w1 .u32 (.slice ao m ca) (Dg.dg 4294967296 d)→Rd w1 .u32 u (Dg.dg 4294967296 X)→yC 102 #[.slice ao m ca,u] w1 (yR w1 (yi (dm d (X:Int))))):=fun u w1 r1 r2=>by
  have:=jF _ u _ _ w1 r1 r2 (Dg.small_dg _ _ (by omega)) (Dg.small_dg _ _ (by omega)) (Dg.norm_dg _ _ (by omega)) (Dg.norm_dg _ _ (by omega))
  rwa [Dg.vl_dg _ _ (by omega),Dg.vl_dg _ _ (by omega)] at this
 obtain⟨cd,hcd⟩: ∃x,io R D d=x:=⟨_,rfl⟩;obtain⟨cp,hcp⟩: ∃x,gD R D d p=x:=⟨_,rfl⟩;have HPOS:Hid (d=X→Y=cd∧p+1=cp):=fun h=>by
  rw[←hcd,←hcp,←hY];unfold io gD;rw[if_pos (h.trans hX.symm),if_pos (h.trans hX.symm)];exact⟨rfl,rfl⟩
 have HNEG:Hid (¬d=X→d=cd∧p=cp):=fun h=>by
  rw[←hcd,←hcp];unfold io gD;rw[if_neg (fun e=>h (e.trans hX)),if_neg (fun e=>h (e.trans hX))]
  exact⟨rfl,rfl⟩
 rw[hcd,hcp];clear hcd hcp;rw[hm] at ho⊢;obtain⟨ds,hds⟩: ∃ds,Dg.dg 4294967296 d=ds:=⟨_,rfl⟩;have HDS:Hid (Dg.dg 4294967296 d=ds):=hds;rw[hds] at ho HCM;clear hX hY hm hds;obtain⟨cc,hcc⟩: ∃c,dm d (X:Int)=c:=⟨_,rfl⟩;have hc0:cc=0↔d=X:=by
  rw[←hcc];unfold dm
  split
  ·omega
  ·split<;>omega
 rw[hcc] at HCM;clear hcc;have b1:=aa (aa (af w (.cells (ygA R D L G gr) 202)) (af _ (.cells #[.slice ao m ca,yi p] 238))) (af _ (.cells #[yN,yi 0] 238));have g1:=((ah w (ygL R D L G gr) 202).l (af _ (.cells #[.slice ao m ca,yi p] 238))).l (af _ (.cells #[yN,yi 0] 238));have s1:=(ah (w.alloc (.cells (ygA R D L G gr) 202)) [.slice ao m ca,yi p] 238).l (af _ (.cells #[yN,yi 0] 238));have z1:=ah ((w.alloc (.cells (ygA R D L G gr) 202)).alloc (.cells #[.slice ao m ca,yi p] 238)) [yN,yi 0] 238;simp only[World.size_alloc] at s1 z1;have bd:=aa b1 ((Below.refl _ _).drew);replace g1:=g1.drew;replace s1:=s1.drew;replace z1:=z1.drew;have o1:=ho.l bd;clear b1 ho;obtain⟨c0,c1,c2,c3,c4⟩:=g1.cs5;have d0:=s1.c 0 rfl;have ne1:w.heap.size+1+1≠w.heap.size:=by omega
 have ne2:w.heap.size+1+1≠w.heap.size+1:=by omega
 have w1:IntKind.i64.wrap (p+1)=p+1:=IntWalk.i64_in _ ⟨by omega,by omega⟩
 go_enter func171,ntmps171
 go_wp2_with fail
 go_region_held3 (fun wq=>wq.cell? ⟨w.heap.size+1,0,none⟩=some (.slice ao m ca)∧(wq.cell? ⟨w.heap.size,0,none⟩=some (yi R)∧wq.cell? ⟨w.heap.size,1,none⟩=some (yi D)∧wq.cell? ⟨w.heap.size,2,none⟩=some (yi L)∧wq.cell? ⟨w.heap.size,3,none⟩=some (yi G)∧wq.cell? ⟨w.heap.size,4,none⟩=some (.bool gr))) (go_keep) (first
  | (go_at_call 203;refine(HE.out _).mono ?_;rintro z w3 ⟨v3,rfl,o3,b3⟩;have b03:=aa bd b3;have g3:=g1.l b3;have s3:=s1.l b3;have z3:=z1.l b3;have o13:=o1.l b3;obtain⟨k0,k1,k2,k3,k4⟩:=g3.cs5;have k5:=s3.c 0 rfl)
  | (go_at_call 102;refine(HCM.out _ w3 (HDS.out▸o13.rd) o3.rd).mono ?_;rintro z w4 ⟨rfl,b4⟩;have b04:=aa b03 b4;have g4:=g3.l b4;have s4:=s3.l b4;have z4:=z3.l b4;have o14:=o13.l b4;obtain⟨j0,j1,j2,j3,j4⟩:=g4.cs5;have j5:=s4.c 0 rfl))
 by_cases h0:cc=0
 ·obtain⟨h3,h4⟩:=HPOS.out (hc0.1 h0)
  subst h3;subst h4;subst h0;clear hc0 HPOS HNEG k0 k1 k2 k3 k4 k5 c0 c1 c2 c3 c4 d0 o3 g1 g3 s1 s3 z1 z3 o1 o13 bd b03 b3 b4 HE HCM;have bd4:yB w4 w4.drew:=(Below.refl _ _).drew;have b05:=aa b04 bd4;have g5:=g4.l bd4;have s5:=s4.l bd4;have z5:=z4.l bd4;clear b04 g4 s4 z4 o14 bd4 j0 j1 j2 j3 j4 j5;obtain⟨j0,j1,j2,j3,j4⟩:=g5.cs5;have j5:=s5.c 1 rfl
  go_goals
  go_wp2_with fail
  go_region_held3 (fun wq=>wq.cell? ⟨w.heap.size+1,1,none⟩=some (yi p)∧(wq.cell? ⟨w.heap.size,0,none⟩=some (yi R)∧wq.cell? ⟨w.heap.size,1,none⟩=some (yi D)∧wq.cell? ⟨w.heap.size,2,none⟩=some (yi L)∧wq.cell? ⟨w.heap.size,3,none⟩=some (yi G)∧wq.cell? ⟨w.heap.size,4,none⟩=some (.bool gr))) (go_keep) (first
   | (go_at_call 204;refine(HF.out _).mono ?_;rintro z w6 ⟨v6,rfl,o6,b6⟩;have b06:=aa b05 b6;have g6:=g5.l b6;have s6:=s5.l b6;have z6:=z5.l b6;obtain⟨k0,k1,k2,k3,k4⟩:=g6.cs5;have k5:=s6.c 1 rfl;obtain⟨y0,y1⟩:=z6.cs2;have f0:=z6.f 0;have f1:=z6.f 1;obtain⟨so,sc,hs⟩:=o6.rd.shape;subst hs))
  all_goals go_wp2
  have z7:au _ _ _ [yT so Y sc,yi (p+1)]:=(z6.set 0 (yT so Y sc)).set 1 (yi (p+1));have o7:=(o6.setE z6 (by decide) 0 (yT so Y sc)).setE (z6.set 0 (yT so Y sc)) (by decide) 1 (yi (p+1));have b7:=(b06.setCell (p:=⟨w.heap.size+1+1,0,none⟩) (by show w.heap.size≤w.heap.size+1+1;omega) (yT so Y sc)).setCell (p:=⟨w.heap.size+1+1,1,none⟩) (by show w.heap.size≤w.heap.size+1+1;omega) (yi (p+1))
  obtain⟨x0,x1⟩:=z7.cs2;refine bodyPost_ret (v:= .agg #[yT so Y sc,yi (p+1)]) (by simp[results,results171,go_sem,x0,x1]) rfl ?_;exact⟨_,rfl,o7.lower (Nat.le_trans hbs b05.size),b7⟩
 ·obtain⟨h3,h4⟩:=HNEG.out (fun h=>h0 (hc0.2 h))
  subst h3;subst h4;have hcf:(cc==0)=false:=by simp;exact h0
  clear hc0 HPOS HNEG k0 k1 k2 k3 k4 k5 c0 c1 c2 c3 c4 d0 o3 g1 g3 s1 s3 z1 z3 o1 o13 bd b03 b3 b4 HE HCM HF j0 j1 j2 j3 j4 g4;have j6:=s4.c 1 rfl;obtain⟨y0,y1⟩:=z4.cs2;have f0:=z4.f 0;have f1:=z4.f 1
  go_goals
  go_wp2
  have z7:au _ _ _ [.slice ao m ca,yi p]:=(z4.set 0 (.slice ao m ca)).set 1 (yi p);have o7:=(o14.setE z4 (by decide) 0 (.slice ao m ca)).setE (z4.set 0 (.slice ao m ca)) (by decide) 1 (yi p);have b7:=(b04.setCell (p:=⟨w.heap.size+1+1,0,none⟩) (by show w.heap.size≤w.heap.size+1+1;omega) (.slice ao m ca)).setCell (p:=⟨w.heap.size+1+1,1,none⟩) (by show w.heap.size≤w.heap.size+1+1;omega) (yi p)
  obtain⟨x0,x1⟩:=z7.cs2;refine bodyPost_ret (v:= .agg #[.slice ao m ca,yi p]) (by simp[results,results171,go_sem,x0,x1]) rfl ?_;exact⟨_,rfl,HDS.out▸o7,b7⟩
end Go.Proofs.YtpgijbdgljkeeaaGreatDoor

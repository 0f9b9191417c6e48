/-
  Texts laid together: Gr1, Gr3, Gr4.
-/
import Derived.Test.YtdhpndnncmagiaaGreatDoorMa10
import Derived.Test.YtdhpndnncmagiaaGreatDoorMa13
set_option maxRecDepth 100000
set_option maxHeartbeats 6400000
namespace Go.Proofs.YtdhpndnncmagiaaGreatDoor
open _root_.Go.Proofs.Tryz
open Go.RowKit
theorem C7 (R D L G:Int)(gr:Bool)(n:Nat)(w:World)(hn:n≤1000):
  yC 322 #[ygV R D L G gr,yi n] w (Num w (2^ (ai R*n))):=by
 have b1:=af w (.cells (ygA R D L G gr) 197);have b2:=aa b1 (af _ (.cells #[.int .u32 ((1:Nat):Int)] 116));have r2:=cE (w:=w.alloc (.cells (ygA R D L G gr) 197)) (k:= .u32) (e:=116) [1] #[.int .u32 ((1:Nat):Int)] rfl (by unfold maxLen;simp);rw[World.size_alloc] at r2;have HW:Hid (yJ 193 #[ygV R D L G gr] (yi (xg R))):=fun w1=>tY R D L G gr w1
 have hwl:=eN R;rw[jf] at HW;obtain⟨wd,hwd⟩: ∃k,ai R=k:=⟨_,rfl⟩;rw[hwd] at HW hwl⊢;have hml:wd*n≤4000:=Nat.le_trans (Nat.mul_le_mul hwl.2 hn) (by omega);have HS:Hid (∀v w1,Rd w1 .u32 v [1]→yC 47 #[v,yi ((wd:Int)*(n:Int))] w1 (Num w1 (2^ (wd*n)))):=fun v w1 r=>by
  have:=eO v [1] ((wd*n:Nat):Int) w1 r (Dg.small_cons.2 ⟨by omega,Dg.small_nil _ (by omega)⟩) (by simp) (by omega) (by omega);rw[CE _ _ (by omega),Int.toNat_natCast,show Dg.vl 4294967296 [1]=1 from rfl,Nat.one_mul] at this
  rwa [Int.natCast_mul] at this
 have hmi:(wd:Int)*(n:Int)≤4000:=by exact_mod_cast hml
 have hm0:0≤(wd:Int)*(n:Int):=by exact_mod_cast Nat.zero_le _
 have hw1:IntKind.i64.wrap ((wd:Int)*(n:Int))=(wd:Int)*(n:Int):=IntWalk.i64_in _ ⟨by omega,by omega⟩;clear hwd
 go_enter func322,ntmps322
 go_wp2_with fail
 refine(HW.out _).mono ?_;rintro z w3 ⟨rfl,b3⟩;have b03:=aa b2 b3;have r3:=r2.l b3;clear b1 b2 r2 b3
 go_wp2_with fail
 refine(HS.out _ _ r3).mono ?_;rintro z w4 ⟨v4,rfl,o4,b4⟩;have b04:=aa b03 b4;have o5:=o4.lower b03.size
 go_wp2
 go_ret
 exact⟨_,rfl,o5,b04⟩
theorem Ax (R D L G:Int)(gr:Bool)(w:World)(h1:1≤D)(h2:D≤120):
  yC 256 #[ygV R D L G gr] w (Num w (2^ (ai R*(D-1).toNat))):=by
 obtain⟨d,rfl⟩: ∃d:Nat,D=(d:Int)+1:=⟨(D-1).toNat,by omega⟩;have e0:((d:Int)+1-1).toNat=d:=by omega
 rw[e0];have b1:=af w (.cells (ygA R ((d:Int)+1) L G gr) 197);have HR:Hid (∀w1,yC 322 #[ygV R ((d:Int)+1) L G gr,yi d] w1 (Num w1 (2^ (ai R*d)))):=fun w1=>C7 R _ L G gr d w1 (by omega)
 go_enter func256,ntmps256
 go_wp2_with fail
 refine(HR.out _).mono ?_;rintro z w4 ⟨v4,rfl,o4,b4⟩;have b04:=aa b1 b4;have o5:=o4.lower b1.size
 go_wp2
 go_ret
 exact⟨_,rfl,o5,b04⟩
theorem MX (R D L G:Int)(gr:Bool)(w:World)(h1:1≤D)(h2:D≤120):
  yC 255 #[ygV R D L G gr] w (Num w (2^ (ai R*D.toNat))):=by
 obtain⟨d,rfl⟩: ∃d:Nat,D=(d:Int):=⟨D.toNat,by omega⟩;rw[Int.toNat_natCast];have b1:=af w (.cells (ygA R (d:Int) L G gr) 197);have HR:Hid (∀w1,yC 322 #[ygV R (d:Int) L G gr,yi d] w1 (Num w1 (2^ (ai R*d)))):=fun w1=>C7 R _ L G gr d w1 (by omega)
 go_enter func255,ntmps255
 go_wp2_with fail
 refine(HR.out _).mono ?_;rintro z w4 ⟨v4,rfl,o4,b4⟩;have b04:=aa b1 b4;have o5:=o4.lower b1.size
 go_wp2
 go_ret
 exact⟨_,rfl,o5,b04⟩
open Go.RowKit Go.ChangeMaps Go.MapKept
theorem sS {P:Program}{t k e:TypeId}(ht:P.underlying t=some (.map k e))(hk:P.underlying k=some (.int .i64)){w W:World}{r:Nat}{es:Array MapEntry}{c:Nat}(hb:W.heap[r]? =some (.map es c))(hr:w.heap.size≤r)(bel:yB w W)(x:Int)(v:Value)(hno:Instr.findNow (.int .i64) (yi x) es.toList 0=some none):
  ∃W',(Instr.mapUpdate t (.map (some r)) (yi x) v).run P W= .ok () W'∧W'.heap[r]? =some (.map (es.push ⟨yi x,v,c⟩) (c+1))∧yB w W':=by
 have hkey:IsKey (.int .i64) (yi x):=rfl;refine⟨setBlock W r (.map (es.push ⟨yi x,v,c⟩) (c+1)), ?_, ?_, ?_⟩
 ·simp[Instr.mapUpdate,run_underlying ht,MapKept.run_getObj_map hb,run_checkKey hk hkey,run_findKey hk hno,MapKept.run_setObj_map _ hb,Result.andThen,setBlock]
 ·exact(MapKept.heap_set hb).1
 ·refine⟨bel.os,bel.tape,bel.output, ?_,fun i hi=> ?_⟩
  ·show w.heap.size≤(W.heap.setIfInBounds r _).size
   rw[Array.size_setIfInBounds];exact bel.size
  ·show(W.heap.setIfInBounds r _)[i]? =_
   rw[(MapKept.heap_set (o':=Obj.map (es.push ⟨yi x,v,c⟩) (c+1)) hb).2 i (by omega)];exact bel.block i hi
theorem pj {P:Program}{t k e:TypeId}(ht:P.underlying t=some (.map k e))(hk:P.underlying k=some (.int .i64)){W:World}{r:Nat}{es:Array MapEntry}{c:Nat}(hb:W.heap[r]? =some (.map es c))(x:Int){i:Nat}{v:Value}(h:Instr.findNow (.int .i64) (yi x) es.toList 0=some (some (i,v))):
  (Instr.lookup t (.map (some r)) (yi x) false).run P W= .ok v W:=by
 have hkey:IsKey (.int .i64) (yi x):=rfl;simp[Instr.lookup,run_underlying ht,MapKept.run_getObj_map hb,run_checkKey hk hkey,run_findKey hk h,Result.andThen]
theorem Yc {P:Program}{t k e:TypeId}(ht:P.underlying t=some (.map k e))(hk:P.underlying k=some (.int .i64)){W:World}{r:Nat}{es:Array MapEntry}{c:Nat}(hb:W.heap[r]? =some (.map es c))(x:Int){z:Value}(hz:(zeroValue e).run P W= .ok z W)(h:Instr.findNow (.int .i64) (yi x) es.toList 0=some none):
  (Instr.lookup t (.map (some r)) (yi x) false).run P W= .ok z W:=by
 have hkey:IsKey (.int .i64) (yi x):=rfl;simp[Instr.lookup,run_underlying ht,MapKept.run_getObj_map hb,run_checkKey hk hkey,run_findKey hk h,hz,Result.andThen]
def Yd:Array MapEntry:= #[⟨yi 1,.func (.func 185) #[] #[],0⟩,⟨yi 2,.func (.func 186) #[] #[],1⟩,⟨yi 3,.func (.func 187) #[] #[],2⟩,⟨yi 4,.func (.func 188) #[] #[],3⟩,⟨yi 5,.func (.func 189) #[] #[],4⟩]
theorem Ye (w:World):yC 129 #[] w fun z w'=>z= .returned (.map (some w.heap.size))∧w'.heap[w.heap.size]? =some (.map Yd 5)∧yB w w':=by
 have ht:=underlying194;have hk:=underlying3;have hb0:(w.alloc (.map #[] 0)).heap[w.heap.size]? =some (.map #[] 0):=heap_alloc_new _ _;have b0:=af w (.map #[] 0);have e0:=run_makeMap (P:=Tryz.prog) 194 w;obtain⟨W1,e1,hb1,b1⟩:=sS ht hk hb0 (Nat.le_refl _) b0 1 (.func (.func 185) #[] #[]) rfl;obtain⟨W2,e2,hb2,b2⟩:=sS ht hk hb1 (Nat.le_refl _) b1 2 (.func (.func 186) #[] #[]) rfl;obtain⟨W3,e3,hb3,b3⟩:=sS ht hk hb2 (Nat.le_refl _) b2 3 (.func (.func 187) #[] #[]) rfl;obtain⟨W4,e4,hb4,b4⟩:=sS ht hk hb3 (Nat.le_refl _) b3 4 (.func (.func 188) #[] #[]) rfl;obtain⟨W5,e5,hb5,b5⟩:=sS ht hk hb4 (Nat.le_refl _) b4 5 (.func (.func 189) #[] #[]) rfl;have HB:Hid (W5.heap[w.heap.size]? =some (.map Yd 5)):=hb5;clear hb1 hb2 hb3 hb4 hb5 b1 b2 b3 b4 ht hk hb0
 go_enter func129,ntmps129
 go_wp2
 go_ret
 exact⟨rfl,HB.out,b5⟩
def gY (way half:Int)(odd neg:Bool):Bool:=
 if way=1 then(decide (0<half)||(decide (half=0)&&odd)) else if way=2 then decide (0≤half) else if way=4 then !neg else if way=5 then neg else false
theorem Yf (half:Int)(odd neg:Bool)(w:World):yC 185 #[.agg #[yi half,.bool odd,.bool neg]] w (yR w (.bool (gY 1 half odd neg))):=by
 have bA:=af w (.cells #[yi half,.bool odd,.bool neg] 250);have hv:gY 1 half odd neg=(decide (0<half)||(decide (half=0)&&odd)):=by simp[gY]
 rw[hv]
 by_cases h:0<half
 ·go_enter func185,ntmps185
  go_wp2
  go_ret
  exact⟨by simp[h],bA⟩
 ·have hf:decide (0<half)=false:=by simp;omega
  by_cases h0:half=0
  ·subst h0
   clear hv h hf
   go_enter func185,ntmps185
   go_wp2
   go_ret
   exact⟨by simp,bA⟩
  ·have h0f:(half==0)=false:=by simp;exact h0
   rw[hf,show decide (half=0)=false by simp;exact h0]
   clear hv
   go_enter func185,ntmps185
   go_wp2
   go_ret
   exact⟨by simp,bA⟩
theorem Yg (half:Int)(odd neg:Bool)(w:World):yC 186 #[.agg #[yi half,.bool odd,.bool neg]] w (yR w (.bool (gY 2 half odd neg))):=by
 have bA:=af w (.cells #[yi half,.bool odd,.bool neg] 250);have hv:gY 2 half odd neg=decide (0≤half):=by simp[gY]
 rw[hv];clear hv
 go_enter func186,ntmps186
 go_wp2
 go_ret
 exact⟨rfl,bA⟩
theorem Yh (half:Int)(odd neg:Bool)(w:World):yC 187 #[.agg #[yi half,.bool odd,.bool neg]] w (yR w (.bool (gY 3 half odd neg))):=by
 have hv:gY 3 half odd neg=false:=by simp[gY]
 have bA:=af w (.cells #[yi half,.bool odd,.bool neg] 250);rw[hv];clear hv
 go_enter func187,ntmps187
 go_wp2
 go_ret
 exact⟨rfl,bA⟩
theorem Yi (half:Int)(odd neg:Bool)(w:World):yC 188 #[.agg #[yi half,.bool odd,.bool neg]] w (yR w (.bool (gY 4 half odd neg))):=by
 have bA:=af w (.cells #[yi half,.bool odd,.bool neg] 250);have hv:gY 4 half odd neg= !neg:=by simp[gY]
 rw[hv];clear hv
 go_enter func188,ntmps188
 go_wp2
 go_ret
 exact⟨rfl,bA⟩
theorem Yj (half:Int)(odd neg:Bool)(w:World):yC 189 #[.agg #[yi half,.bool odd,.bool neg]] w (yR w (.bool (gY 5 half odd neg))):=by
 have bA:=af w (.cells #[yi half,.bool odd,.bool neg] 250);have hv:gY 5 half odd neg=neg:=by simp[gY]
 rw[hv];clear hv
 go_enter func189,ntmps189
 go_wp2
 go_ret
 exact⟨rfl,bA⟩
def io (R D:Int)(d:Nat):Nat:=if d=2^ (ai R*D.toNat) then 2^ (ai R*(D-1).toNat) else d
def gD (R D:Int)(d:Nat)(p:Int):Int:=if d=2^ (ai R*D.toNat) then p+1 else p
theorem Br (R D L G:Int)(gr:Bool)(v:Value)(d:Nat)(p:Int)(base:Nat)(w:World)(ho:Own w base 116 .u32 v (Dg.dg 4294967296 d))(hbs:base≤w.heap.size)(h1:1≤D)(h2:D≤120)(p1: -1000000≤p)(p2:p≤1000000):
  yC 194 #[ygV R D L G gr,.agg #[v,yi p]] w fun z w'=> ∃u,z= .returned (.agg #[u,yi (gD R D d p)])∧Own w' base 116 .u32 u (Dg.dg 4294967296 (io R D d))∧yB w w':=by
 obtain⟨ao,ca,hv⟩:=ho.rd.shape;subst hv;obtain⟨m,hm⟩: ∃m,(Dg.dg 4294967296 d).length=m:=⟨_,rfl⟩;have HE:Hid (∀w1,yC 255 #[ygV R D L G gr] w1 (Num w1 (2^ (ai R*D.toNat)))):=fun w1=>MX R D L G gr w1 h1 h2
 have HF:Hid (∀w1,yC 256 #[ygV R D L G gr] w1 (Num w1 (2^ (ai R*(D-1).toNat)))):=fun w1=>Ax R D L G gr w1 h1 h2
 obtain⟨X,hX⟩: ∃X,2^ (ai R*D.toNat)=X:=⟨_,rfl⟩;obtain⟨Y,hY⟩: ∃Y,2^ (ai R*(D-1).toNat)=Y:=⟨_,rfl⟩;rw[hX] at HE;rw[hY] at HF;have HCM:Hid (∀u w1,Rd w1 .u32 (.slice ao m ca) (Dg.dg 4294967296 d)→Rd w1 .u32 u (Dg.dg 4294967296 X)→yC 51 #[.slice ao m ca,u] w1 (yR w1 (yi (dm d (X:Int))))):=fun u w1 r1 r2=>by
  have:=jF _ u _ _ w1 r1 r2 (Dg.small_dg _ _ (by omega)) (Dg.small_dg _ _ (by omega)) (Dg.norm_dg _ _ (by omega)) (Dg.norm_dg _ _ (by omega))
  rwa [Dg.vl_dg _ _ (by omega),Dg.vl_dg _ _ (by omega)] at this
 obtain⟨cd,hcd⟩: ∃x,io R D d=x:=⟨_,rfl⟩;obtain⟨cp,hcp⟩: ∃x,gD R D d p=x:=⟨_,rfl⟩;have HPOS:Hid (d=X→Y=cd∧p+1=cp):=fun h=>by
  rw[←hcd,←hcp,←hY];unfold io gD;rw[if_pos (h.trans hX.symm),if_pos (h.trans hX.symm)];exact⟨rfl,rfl⟩
 have HNEG:Hid (¬d=X→d=cd∧p=cp):=fun h=>by
  rw[←hcd,←hcp];unfold io gD;rw[if_neg (fun e=>h (e.trans hX)),if_neg (fun e=>h (e.trans hX))]
  exact⟨rfl,rfl⟩
 rw[hcd,hcp];clear hcd hcp;rw[hm] at ho⊢;obtain⟨ds,hds⟩: ∃ds,Dg.dg 4294967296 d=ds:=⟨_,rfl⟩;have HDS:Hid (Dg.dg 4294967296 d=ds):=hds;rw[hds] at ho HCM;clear hX hY hm hds;obtain⟨cc,hcc⟩: ∃c,dm d (X:Int)=c:=⟨_,rfl⟩;have hc0:cc=0↔d=X:=by
  rw[←hcc];unfold dm
  split
  ·omega
  ·split<;>omega
 rw[hcc] at HCM;clear hcc;have b1:=aa (aa (af w (.cells (ygA R D L G gr) 197)) (af _ (.cells #[.slice ao m ca,yi p] 212))) (af _ (.cells #[yN,yi 0] 212));have g1:=((ah w (ygL R D L G gr) 197).l (af _ (.cells #[.slice ao m ca,yi p] 212))).l (af _ (.cells #[yN,yi 0] 212));have s1:=(ah (w.alloc (.cells (ygA R D L G gr) 197)) [.slice ao m ca,yi p] 212).l (af _ (.cells #[yN,yi 0] 212));have z1:=ah ((w.alloc (.cells (ygA R D L G gr) 197)).alloc (.cells #[.slice ao m ca,yi p] 212)) [yN,yi 0] 212;simp only[World.size_alloc] at s1 z1;have bd:=aa b1 ((Below.refl _ _).drew);replace g1:=g1.drew;replace s1:=s1.drew;replace z1:=z1.drew;have o1:=ho.l bd;clear b1 ho;obtain⟨c0,c1,c2,c3,c4⟩:=g1.cs5;have d0:=s1.c 0 rfl;have ne1:w.heap.size+1+1≠w.heap.size:=by omega
 have ne2:w.heap.size+1+1≠w.heap.size+1:=by omega
 have w1:IntKind.i64.wrap (p+1)=p+1:=IntWalk.i64_in _ ⟨by omega,by omega⟩
 go_enter func194,ntmps194
 go_wp2_with fail
 go_region_held3 (fun wq=>wq.cell? ⟨w.heap.size+1,0,none⟩=some (.slice ao m ca)∧(wq.cell? ⟨w.heap.size,0,none⟩=some (yi R)∧wq.cell? ⟨w.heap.size,1,none⟩=some (yi D)∧wq.cell? ⟨w.heap.size,2,none⟩=some (yi L)∧wq.cell? ⟨w.heap.size,3,none⟩=some (yi G)∧wq.cell? ⟨w.heap.size,4,none⟩=some (.bool gr))) (go_keep) (first
  | (go_at_call 255;refine(HE.out _).mono ?_;rintro z w3 ⟨v3,rfl,o3,b3⟩;have b03:=aa bd b3;have g3:=g1.l b3;have s3:=s1.l b3;have z3:=z1.l b3;have o13:=o1.l b3;obtain⟨k0,k1,k2,k3,k4⟩:=g3.cs5;have k5:=s3.c 0 rfl)
  | (go_at_call 51;refine(HCM.out _ w3 (HDS.out▸o13.rd) o3.rd).mono ?_;rintro z w4 ⟨rfl,b4⟩;have b04:=aa b03 b4;have g4:=g3.l b4;have s4:=s3.l b4;have z4:=z3.l b4;have o14:=o13.l b4;obtain⟨j0,j1,j2,j3,j4⟩:=g4.cs5;have j5:=s4.c 0 rfl))
 by_cases h0:cc=0
 ·obtain⟨h3,h4⟩:=HPOS.out (hc0.1 h0)
  subst h3;subst h4;subst h0;clear hc0 HPOS HNEG k0 k1 k2 k3 k4 k5 c0 c1 c2 c3 c4 d0 o3 g1 g3 s1 s3 z1 z3 o1 o13 bd b03 b3 b4 HE HCM;have bd4:yB w4 w4.drew:=(Below.refl _ _).drew;have b05:=aa b04 bd4;have g5:=g4.l bd4;have s5:=s4.l bd4;have z5:=z4.l bd4;clear b04 g4 s4 z4 o14 bd4 j0 j1 j2 j3 j4 j5;obtain⟨j0,j1,j2,j3,j4⟩:=g5.cs5;have j5:=s5.c 1 rfl
  go_goals
  go_wp2_with fail
  go_region_held3 (fun wq=>wq.cell? ⟨w.heap.size+1,1,none⟩=some (yi p)∧(wq.cell? ⟨w.heap.size,0,none⟩=some (yi R)∧wq.cell? ⟨w.heap.size,1,none⟩=some (yi D)∧wq.cell? ⟨w.heap.size,2,none⟩=some (yi L)∧wq.cell? ⟨w.heap.size,3,none⟩=some (yi G)∧wq.cell? ⟨w.heap.size,4,none⟩=some (.bool gr))) (go_keep) (first
   | (go_at_call 256;refine(HF.out _).mono ?_;rintro z w6 ⟨v6,rfl,o6,b6⟩;have b06:=aa b05 b6;have g6:=g5.l b6;have s6:=s5.l b6;have z6:=z5.l b6;obtain⟨k0,k1,k2,k3,k4⟩:=g6.cs5;have k5:=s6.c 1 rfl;obtain⟨y0,y1⟩:=z6.cs2;have f0:=z6.f 0;have f1:=z6.f 1;obtain⟨so,sc,hs⟩:=o6.rd.shape;subst hs))
  all_goals go_wp2
  have z7:au _ _ _ [yT so Y sc,yi (p+1)]:=(z6.set 0 (yT so Y sc)).set 1 (yi (p+1));have o7:=(o6.setE z6 (by decide) 0 (yT so Y sc)).setE (z6.set 0 (yT so Y sc)) (by decide) 1 (yi (p+1));have b7:=(b06.setCell (p:=⟨w.heap.size+1+1,0,none⟩) (by show w.heap.size≤w.heap.size+1+1;omega) (yT so Y sc)).setCell (p:=⟨w.heap.size+1+1,1,none⟩) (by show w.heap.size≤w.heap.size+1+1;omega) (yi (p+1))
  obtain⟨x0,x1⟩:=z7.cs2;refine bodyPost_ret (v:= .agg #[yT so Y sc,yi (p+1)]) (by simp[results,results194,go_sem,x0,x1]) rfl ?_;exact⟨_,rfl,o7.lower (Nat.le_trans hbs b05.size),b7⟩
 ·obtain⟨h3,h4⟩:=HNEG.out (fun h=>h0 (hc0.2 h))
  subst h3;subst h4;have hcf:(cc==0)=false:=by simp;exact h0
  clear hc0 HPOS HNEG k0 k1 k2 k3 k4 k5 c0 c1 c2 c3 c4 d0 o3 g1 g3 s1 s3 z1 z3 o1 o13 bd b03 b3 b4 HE HCM HF j0 j1 j2 j3 j4 g4;have j6:=s4.c 1 rfl;obtain⟨y0,y1⟩:=z4.cs2;have f0:=z4.f 0;have f1:=z4.f 1
  go_goals
  go_wp2
  have z7:au _ _ _ [.slice ao m ca,yi p]:=(z4.set 0 (.slice ao m ca)).set 1 (yi p);have o7:=(o14.setE z4 (by decide) 0 (.slice ao m ca)).setE (z4.set 0 (.slice ao m ca)) (by decide) 1 (yi p);have b7:=(b04.setCell (p:=⟨w.heap.size+1+1,0,none⟩) (by show w.heap.size≤w.heap.size+1+1;omega) (.slice ao m ca)).setCell (p:=⟨w.heap.size+1+1,1,none⟩) (by show w.heap.size≤w.heap.size+1+1;omega) (yi p)
  obtain⟨x0,x1⟩:=z7.cs2;refine bodyPost_ret (v:= .agg #[.slice ao m ca,yi p]) (by simp[results,results194,go_sem,x0,x1]) rfl ?_;exact⟨_,rfl,HDS.out▸o7,b7⟩
theorem Mt (R D L G:Int)(gr:Bool)(qs:Bool)(no:Option Addr)(nl nc:Nat)(eo:Option Addr)(el ec:Nat)(E:Int)(fn:FuncId)(T pw pw2 wd:Int)(q r dn:Nat)(half:Int)(odd aw un ex bb:Bool)(d cd:Nat)(cp:Int)(PT:fz)(w:World)
  (hun:un=decide (pw<L)) (hex:ex=decide (r=0)) (hbb:(un&&gr)=bb) (HP1:bb=true→pw2=L) (HP2:bb=false→pw2=pw)
  (W1:IntKind.i64.wrap (wd*pw2)=wd*pw2) (W2:IntKind.i64.wrap (E-wd*pw2)=E-wd*pw2)
  (HD1:ex=false→aw=true→d=q+1) (HD2:ex=true∨aw=false→d=q)
  (HZ:d=0→PT=⟨qs,0,0,ex,false,un⟩) (HNZ: ¬d=0→PT=⟨qs,cd,cp,ex,decide (G<cp),un⟩)
  (HE: ∀args W,Sem.run Tryz.prog (callFunc fn args) W= .ok (.enter fn args) W)
  (HT:yH w 191 #[yrV qs (.slice no nl nc) (.slice eo el ec) E] (yi T))
  (HPW:yJ 190 #[ygV R D L G gr,yi T] (yi pw))
  (HWD:yJ 193 #[ygV R D L G gr] (yi wd))
  (HPA: ∀w1,yB w w1→yC 192 #[yrV qs (.slice no nl nc) (.slice eo el ec) E,yi (E-wd*pw2)] w1 (WH w1 q r dn))
  (HSH: ∀v w1,Rd w1 .u32 v (Dg.dg 4294967296 r)→yC 47 #[v,yi 1] w1 (Num w1 (r*2)))
  (HCM: ∀v u w1,Rd w1 .u32 v (Dg.dg 4294967296 (r*2))→Rd w1 .u32 u (Dg.dg 4294967296 dn)→yC 51 #[v,u] w1 (yR w1 (yi half)))
  (HOD: ∀v w1,Rd w1 .u32 v (Dg.dg 4294967296 q)→yC 52 #[v] w1 fun z w'=>z= .returned (.bool odd)∧w'=w1)
  (HAW:yJ fn #[.agg #[yi half,.bool odd,.bool qs]] (.bool aw))
  (HPL: ∀v u w1,Rd w1 .u32 v (Dg.dg 4294967296 q)→Rd w1 .u32 u [1]→yC 48 #[v,u] w1 (Num w1 (q+1)))
  (HCA: ∀v base w1,Own w1 base 116 .u32 v (Dg.dg 4294967296 d)→base≤w1.heap.size→yC 194 #[ygV R D L G gr,.agg #[v,yi pw2]] w1 fun z w'=> ∃u,z= .returned (.agg #[u,yi cp])∧Own w' base 116 .u32 u (Dg.dg 4294967296 cd)∧yB w1 w'):
  yC 130 #[ygV R D L G gr,yrV qs (.slice no nl nc) (.slice eo el ec) E,.func (.func fn) #[] #[]] w (Fk w PT):=by
 replace HP1:Hid _:=HP1;replace HP2:Hid _:=HP2;replace HD1:Hid _:=HD1;replace HD2:Hid _:=HD2;replace HZ:Hid _:=HZ;replace HNZ:Hid _:=HNZ;replace HT:Hid _:=HT;replace HPW:Hid _:=HPW;replace HWD:Hid _:=HWD;replace HPA:Hid _:=HPA;replace HSH:Hid _:=HSH;replace HCM:Hid _:=HCM;replace HOD:Hid _:=HOD;replace HAW:Hid _:=HAW;replace HPL:Hid _:=HPL;replace HCA:Hid _:=HCA;have HUN:Hid _:=hun;have HEX:Hid _:=hex;have HBB:Hid _:=hbb;clear hbb;have b1:=aa (aa (af w (.cells (ygA R D L G gr) 197)) (af _ (.cells (yrA qs (.slice no nl nc) (.slice eo el ec) E) 77))) (af _ (.cells (ypA false yN 0 false false false) 140));have g1:=((ah w (ygL R D L G gr) 197).l (af _ (.cells (yrA qs (.slice no nl nc) (.slice eo el ec) E) 77))).l (af _ (.cells (ypA false yN 0 false false false) 140));have q1:=(ah (w.alloc (.cells (ygA R D L G gr) 197)) (yrL qs (.slice no nl nc) (.slice eo el ec) E) 77).l (af _ (.cells (ypA false yN 0 false false false) 140));have c1:=ah ((w.alloc (.cells (ygA R D L G gr) 197)).alloc (.cells (yrA qs (.slice no nl nc) (.slice eo el ec) E) 77)) (ypL false yN 0 false false false) 140;simp only[World.size_alloc] at q1 c1;have g_2:=g1.l ((Below.refl _ _).drew);have q_2:=q1.l ((Below.refl _ _).drew);have c_2:=c1.l ((Below.refl _ _).drew);have b0_2:=aa b1 ((Below.refl _ _).drew);clear g1 q1 c1 b1;obtain⟨x0,x1,x2,x3,x4⟩:=g_2.cs5;obtain⟨y0,y1,y2,y3⟩:=q_2.cs4
 go_enter func130,ntmps130
 go_wp2_with fail
 go_region_held3 (fun wq=>(wq.cell? ⟨w.heap.size,0,none⟩=some (yi R)∧wq.cell? ⟨w.heap.size,1,none⟩=some (yi D)∧wq.cell? ⟨w.heap.size,2,none⟩=some (yi L)∧wq.cell? ⟨w.heap.size,3,none⟩=some (yi G)∧wq.cell? ⟨w.heap.size,4,none⟩=some (.bool gr))∧wq.cell? ⟨w.heap.size+1,0,none⟩=some (.bool qs)∧wq.cell? ⟨w.heap.size+1,1,none⟩=some (.slice no nl nc)∧wq.cell? ⟨w.heap.size+1,2,none⟩=some (.slice eo el ec)∧wq.cell? ⟨w.heap.size+1,3,none⟩=some (yi E)) (go_keep) (first
  | (go_at_call 191;have hgd:=b0_2;clear hgd;refine(HT.out _ b0_2).mono ?_;rintro z wa ⟨rfl,bb_wa⟩;have b0_wa:=aa b0_2 bb_wa;have g_wa:=g_2.l bb_wa;have q_wa:=q_2.l bb_wa;have c_wa:=c_2.l bb_wa;obtain⟨xa0,xa1,xa2,xa3,xa4⟩:=g_wa.cs5;obtain⟨ya0,ya1,ya2,ya3⟩:=q_wa.cs4;clear b0_2)
  | (go_at_call 190;have hgd:=b0_wa;clear hgd;refine(HPW.out _).mono ?_;rintro z wb ⟨rfl,bb_wb⟩;have b0_wb:=aa b0_wa bb_wb;have g_wb:=g_wa.l bb_wb;have q_wb:=q_wa.l bb_wb;have c_wb:=c_wa.l bb_wb;obtain⟨xb0,xb1,xb2,xb3,xb4⟩:=g_wb.cs5;obtain⟨yb0,yb1,yb2,yb3⟩:=q_wb.cs4;clear b0_wa))
 clear x0 x1 x2 x3 x4 xa0 xa1 xa2 xa3 xa4 xb0 xb1 xb2 xb3 xb4 y0 y1 y2 y3 ya0 ya1 ya2 ya3 yb0 yb1 yb2 yb3;have ap:=af wb (.cells (ypA qs yN 0 false false un) 140);have p3:=ah wb (ypL qs yN 0 false false un) 140;have hPb:w.heap.size+1+1<wb.heap.size:=c_wb.lt;have g_4:=g_wb.l ap;have q_4:=q_wb.l ap;have c_4:=c_wb.l ap;have b0_4:=aa b0_wb ap;clear g_wb q_wb c_wb b0_wb ap
 skip
 skip
 have x2:=g_4.c 2 rfl;have x4:=g_4.c 4 rfl;have y0:=q_4.c 0 rfl;have hlt:decide (pw<L)=un:=HUN.out.symm;clear hun hex
 go_goals
 go_upto_region 3 with fail
 generalize hW4:wb.alloc (.cells (ypA qs yN 0 false false un) 140)=W4 at g_4 q_4 c_4 p3 b0_4 x2 x4 y0⊢;generalize wb.heap.size=PB at p3 hPb⊢;clear hW4;have z5:=p3.c 5 rfl
 go_cut [31] (fun s31 wx=>s31= .bool bb∧wx=W4)
 case first=>
  cases un
  ·go_wp2_with fail
   go_meet
   exact⟨by rw[←HBB.out];rfl,rfl⟩
  ·go_wp2_with fail
   go_meet
   exact⟨by rw[←HBB.out];rfl,rfl⟩
 case rest=>
  obtain⟨rfl,rfl⟩:=hcut
  go_upto_if 31 with fail
  go_cut [7] (fun s7 wx=>s7=yi pw2∧wx=wc)
  case first=>
   cases bb
   ·have e:Hid (pw2=pw):=HP2.out rfl
    go_wp2_with fail
    go_meet
    exact⟨by rw[e.out],rfl⟩
   ·have e:Hid (pw2=L):=HP1.out rfl
    go_wp2_with fail
    go_meet
    exact⟨by rw[e.out],rfl⟩
  case rest=>
   obtain⟨rfl,rfl⟩:=hcut;clear x2 x4 y0 z5 hlt HP1 HP2;have bd_4:yB wc wc.drew:=(Below.refl _ _).drew;have g_5:=g_4.l bd_4;have q_5:=q_4.l bd_4;have c_5:=c_4.l bd_4;have p_5:=p3.l bd_4;have b0_5:=aa b0_4 bd_4;clear g_4 q_4 c_4 p3 b0_4 bd_4;obtain⟨x0,x1,x2,x3,x4⟩:=g_5.cs5;obtain⟨y0,y1,y2,y3⟩:=q_5.cs4
   go_wp2_with fail
   go_region_held3 (fun wq=>(wq.cell? ⟨w.heap.size,0,none⟩=some (yi R)∧wq.cell? ⟨w.heap.size,1,none⟩=some (yi D)∧wq.cell? ⟨w.heap.size,2,none⟩=some (yi L)∧wq.cell? ⟨w.heap.size,3,none⟩=some (yi G)∧wq.cell? ⟨w.heap.size,4,none⟩=some (.bool gr))∧wq.cell? ⟨w.heap.size+1,0,none⟩=some (.bool qs)∧wq.cell? ⟨w.heap.size+1,1,none⟩=some (.slice no nl nc)∧wq.cell? ⟨w.heap.size+1,2,none⟩=some (.slice eo el ec)∧wq.cell? ⟨w.heap.size+1,3,none⟩=some (yi E)) (go_keep) (first
    | (go_at_call 193;have hgd:=b0_5;clear hgd;refine(HWD.out _).mono ?_;rintro z wd1 ⟨rfl,bb_wd1⟩;have b0_wd1:=aa b0_5 bb_wd1;have g_wd1:=g_5.l bb_wd1;have q_wd1:=q_5.l bb_wd1;have c_wd1:=c_5.l bb_wd1;have p_wd1:=p_5.l bb_wd1;obtain⟨xa0,xa1,xa2,xa3,xa4⟩:=g_wd1.cs5;obtain⟨ya0,ya1,ya2,ya3⟩:=q_wd1.cs4;clear b0_5)
    | (go_at_call 192;have hgd:=b0_wd1;clear hgd;refine(HPA.out _ b0_wd1).mono ?_;rintro z we ⟨v9,v10,v11,rfl,o9,o10,r11,bb_we⟩;have b0_we:=aa b0_wd1 bb_we;have g_we:=g_wd1.l bb_we;have q_we:=q_wd1.l bb_we;have c_we:=c_wd1.l bb_we;have p_we:=p_wd1.l bb_we;obtain⟨xb0,xb1,xb2,xb3,xb4⟩:=g_we.cs5;obtain⟨yb0,yb1,yb2,yb3⟩:=q_we.cs4;have ob9:=o9.lower b0_wd1.size;have ob10:=o10.lower b0_wd1.size;clear b0_wd1))
   clear x0 x1 x2 x3 x4 xa0 xa1 xa2 xa3 xa4 xb0 xb1 xb2 xb3 xb4 y0 y1 y2 y3 ya0 ya1 ya2 ya3 yb0 yb1 yb2 yb3 o9 o10 W1 W2 HWD HPA;obtain⟨ro,rk,h10⟩:=ob10.rd.shape;subst h10;obtain⟨qo,qk,h9⟩:=ob9.rd.shape;subst h9;obtain⟨lr,hlr⟩: ∃l,(Dg.dg 4294967296 r).length=l:=⟨_,rfl⟩;have hl0:((lr:Int)==0)=ex:=by rw[HEX.out,←hlr];exact wV r
   obtain⟨lq,hlq⟩: ∃l,(Dg.dg 4294967296 q).length=l:=⟨_,rfl⟩;rw[hlr] at ob10⊢;rw[hlq] at ob9⊢;have y3:=p_we.c 3 rfl;have f3:=p_we.f 3
   go_goals
   go_upto_region 7 with fail
   have hPx: ∀x∈((ypL qs yN 0 false false un):List Value),∀n:Int,x≠ .int .u32 n:=by simp
   have p7:au (we.setCell ⟨PB,3,none⟩ (.bool ex)) PB 140 (ypL qs yN 0 ex false un):=p_we.set 3 (.bool ex);have hAP:PB≠w.heap.size:=by omega
   have hBP:PB≠w.heap.size+1:=by omega
   have hCP:PB≠w.heap.size+1+1:=by omega
   have hPl:w.heap.size≤PB:=by omega
   have g7:=g_we.off (c:=PB) hAP 3 (.bool ex);have q7:=q_we.off (c:=PB) hBP 3 (.bool ex);have c7:=c_we.off (c:=PB) hCP 3 (.bool ex);have o7:=ob9.setE p_we (by decide) 3 (.bool ex);have r7:=ob10.setE p_we (by decide) 3 (.bool ex);have e7:=r11.set (aX r11 p_we hPx) 3 (.bool ex);have b7:=b0_we.setCell (p:=⟨PB,3,none⟩) hPl (.bool ex);clear g_we q_we c_we p_we ob9 ob10 r11 b0_we y3 f3 hPx g_2 q_2 c_2 g_wa q_wa c_wa bb_wa bb_wb g_5 q_5 c_5 p_5 g_wd1 q_wd1 c_wd1 p_wd1 bb_wd1 bb_we;replace hl0:Hid _:=hl0;clear hlr hlq;generalize(we.setCell ⟨PB,3,none⟩ (.bool ex))=W7 at p7 g7 q7 c7 o7 r7 e7 b7⊢;have z3:=p7.c 3 rfl;have z0:=q7.c 0 rfl;have z3d:=p7.drew.c 3 rfl;have z0d:=q7.drew.c 0 rfl
   go_cut [67] (fun s67 wx=>s67= .bool (!ex&&aw)∧yB W7 wx)
   case first=>
    cases ex
    ·have bd7:yB W7 W7.drew:=(Below.refl _ _).drew
     go_wp2_with fail
     go_region_held3 (fun wq=>wq.cell? ⟨PB,3,none⟩=some (.bool false)∧wq.cell? ⟨w.heap.size+1,0,none⟩=some (.bool qs)) (go_keep) (first
      | (go_at_call 47;have hgd:=bd7;clear hgd;refine(HSH.out _ _ (r7.l bd7).rd).mono ?_;rintro z x1 ⟨v1,rfl,o1,bb_x1⟩;have b0_x1:=aa bd7 bb_x1;have q_x1:=(q7.l bd7).l bb_x1;have p_x1:=(p7.l bd7).l bb_x1;have o_x1:=(o7.l bd7).l bb_x1;have r_x1:=(r7.l bd7).l bb_x1;have e_x1:=(e7.l bd7).l bb_x1;have i1:=p_x1.c 3 rfl;have i2:=q_x1.c 0 rfl;clear bd7)
      | (go_at_call 51;have hgd:=b0_x1;clear hgd;refine(HCM.out _ _ _ o1.rd e_x1).mono ?_;rintro z x2 ⟨rfl,bb_x2⟩;have b0_x2:=aa b0_x1 bb_x2;have q_x2:=q_x1.l bb_x2;have p_x2:=p_x1.l bb_x2;have o_x2:=o_x1.l bb_x2;have r_x2:=r_x1.l bb_x2;have e_x2:=e_x1.l bb_x2;have i3:=p_x2.c 3 rfl;have i4:=q_x2.c 0 rfl;clear b0_x1)
      | (go_at_call 52;have hgd:=b0_x2;clear hgd;refine(HOD.out _ _ o_x2.rd).mono ?_;rintro z x3 ⟨rfl,rfl⟩;have b0_x3:=b0_x2;clear b0_x2)
      | ((with_reducible (refine(HAW.out _).mono ?_));rintro z x4 ⟨rfl,bb4⟩;have b0_x4:=aa b0_x3 bb4;have i5:=(p_x2.l bb4).c 3 rfl;have i6:=(q_x2.l bb4).c 0 rfl))
     go_goals
     go_wp2_with fail
     go_meet
     exact⟨rfl,b0_x4⟩
    ·have bd7:yB W7 W7.drew:=(Below.refl _ _).drew
     go_wp2_with fail
     go_quiet (fail)
     go_goals
     go_wp2_with fail
     go_meet
     exact⟨rfl,aL (Below.refl _ _) nq⟩
   case rest=>
    obtain⟨rfl,bw7⟩:=hcut;clear z3 z0 z3d z0d;have g_9:=g7.l bw7;have q_9:=q7.l bw7;have c_9:=c7.l bw7;have p_9:=p7.l bw7;have o_9:=o7.l bw7;have r_9:=r7.l bw7;have e_9:=e7.l bw7;have b0_9:=aa b7 bw7;clear g7 q7 c7 p7 o7 r7 e7 b7 bw7
    go_upto_if 67 with fail
    skip
    go_cut [9] (fun s9 wx=>Own wx w.heap.size 116 .u32 s9 (Dg.dg 4294967296 d)∧yB wc wx)
    case first=>
     have a1:=af wc (.cells #[.int .u32 ((1:Nat):Int)] 116);have r1:=cE (w:=wc) (k:= .u32) (e:=116) [1] #[.int .u32 ((1:Nat):Int)] rfl (by unfold maxLen;simp)
     by_cases hb:ex=false∧aw=true
     ·obtain⟨rfl,rfl⟩:=hb
      have hd1:=HD1.out rfl rfl
      go_wp2_with fail
      refine(HPL.out _ _ _ (o_9.rd.l a1) r1).mono ?_;rintro z wx ⟨vx,rfl,ox,bx⟩
      go_wp2_with fail
      go_meet
      exact⟨by rw[hd1];exact ox.lower (Nat.le_trans b0_9.size a1.size),aa a1 bx⟩
     ·have hd2:=HD2.out (Bf hb).1
      have hf:(!ex&&aw)=false:=(Bf hb).2;rw[hf]
      go_wp2_with fail
      go_meet
      exact⟨by rw[hd2];exact o_9,Below.refl _ _⟩
    case rest=>
     obtain⟨od,bwd⟩:=hcut;have g_10:=g_9.l bwd;have q_10:=q_9.l bwd;have c_10:=c_9.l bwd;have p_10:=p_9.l bwd;have b0_10:=aa b0_9 bwd;clear g_9 q_9 c_9 p_9 b0_9 bwd;obtain⟨so,sk,hs9⟩:=od.rd.shape;subst hs9;have hld:=wV d;obtain⟨ld,hle⟩: ∃l,(Dg.dg 4294967296 d).length=l:=⟨_,rfl⟩;rw[hle] at hld od⊢
     by_cases hd0:d=0
     ·have hl9:ld=0:=by rw[←hle,hd0];rfl
      have HD0:Hid (d=0):=hd0;clear hd0 hld hle od;subst hl9;have rg9:=p_10.range;have th9:=c_10.there 6 rfl;have cR:=c_10.sets (ypL qs yN 0 ex false un) rfl;have buR:=de (w.heap.size+1+1) (ypL qs yN 0 ex false un) 0 wc;have bR:=buR.below b0_10 (show w.heap.size≤w.heap.size+1+1 by omega)
      go_upto_region 10 with fail
      refine wp_region_lit ?_;refine wpList_load_mid rfl 140 (.tmp 8) rfl PB 0 rfl (ypL qs yN 0 ex false un) _ rg9 underlying140 rfl (by kernel_rfl) ?_;refine wpList_store_mid rfl 140 (.tmp 6) (.tmp 74) rfl (w.heap.size+1+1) 0 (ypA qs yN 0 ex false un) rfl rfl th9 (by kernel_rfl) (by simp[Value.oneCell']) ?_;refine wpList_nil ?_;clear rg9 th9 buR p_10 c_10;change Exit.then _ _ _ _ (World.setCells wc (w.heap.size+1+1) 0 (ypL qs yN 0 ex false un));generalize World.setCells wc (w.heap.size+1+1) 0 (ypL qs yN 0 ex false un)=WR at cR bR⊢
      go_goals
      rename_i KK hKK
      refine hKK _ _ (wp_ret ?_);clear hKK;obtain⟨s0,s1,s2,s3,s4,s5⟩:=cR.cs6;refine bodyPost_ret (v:=(ypV qs yN 0 ex false un)) (by simp[results,results130,go_sem,s0,s1,s2,s3,s4,s5]) rfl ?_;rw[HZ.out HD0.out];exact⟨_,rfl,aQ _ _ _ _,bR⟩
     ·have hz:((ld:Int)==0)=false:=by rw[hld];simp[hd0]
      have HDN:Hid (¬d=0):=hd0;clear hd0 hld;obtain⟨x0,x1,x2,x3,x4⟩:=g_10.cs5
      go_wp2_with fail
      refine(HCA.out _ _ _ (hle▸od) (b0_10.size)).mono ?_;rintro z wg ⟨u,rfl,ou,bb11⟩;have g_11:=g_10.l bb11;have q_11:=q_10.l bb11;have c_11:=c_10.l bb11;have p_11:=p_10.l bb11;have o_11:=od.l bb11;have b0_11:=aa b0_10 bb11;clear g_10 q_10 c_10 p_10 od b0_10 bb11;clear x0 x1 x2 x3 x4;obtain⟨uo,uk,hs9⟩:=ou.rd.shape;subst hs9;have asp:=af wg (.cells #[yT uo cd uk,yi cp] 212);have s9:=ah wg [yT uo cd uk,yi cp] 212;have hSB:PB<wg.heap.size:=p_11.lt;have g_12:=g_11.l asp;have q_12:=q_11.l asp;have c_12:=c_11.l asp;have p_12:=p_11.l asp;have o_12:=ou.l asp;have b0_12:=aa b0_11 asp;clear g_11 q_11 c_11 p_11 ou b0_11 asp
      go_upto_region 12 with fail
      generalize wg.alloc (.cells #[yT uo cd uk,yi cp] 212)=W9 at g_12 q_12 c_12 p_12 o_12 s9 b0_12⊢;generalize wg.heap.size=SB at s9 hSB⊢;have x3:=g_12.c 3 rfl;obtain⟨y0,y1⟩:=s9.cs2;have v1:=p_12.c 1 rfl;have f1:=p_12.f 1;have v2:=p_12.c 2 rfl;have f2:=p_12.f 2;have v4:=p_12.c 4 rfl;have f4:=p_12.f 4;have nPG:PB≠w.heap.size:=hAP;have nPS:PB≠SB:=by omega
      go_wp2_with fail
      have bu:But PB W9 (((W9.setCell ⟨PB,1,none⟩ (yT uo cd uk)).setCell ⟨PB,2,none⟩ (yi cp)).setCell ⟨PB,4,none⟩ (.bool (decide (G<cp)))):=((ag W9 PB 1 (yT uo cd uk)).trans (ag _ PB 2 (yi cp))).trans (ag _ PB 4 (.bool (decide (G<cp))));have pX:au (((W9.setCell ⟨PB,1,none⟩ (yT uo cd uk)).setCell ⟨PB,2,none⟩ (yi cp)).setCell ⟨PB,4,none⟩ (.bool (decide (G<cp)))) PB 140 (ypL qs (yT uo cd uk) cp ex (decide (G<cp)) un):=((p_12.set 1 (yT uo cd uk)).set 2 (yi cp)).set 4 (.bool (decide (G<cp)));have cX:=bu.loc c_12 hCP.symm;have oX:=bu.own o_12 p_12 (by decide);have bX:=bu.below b0_12 hPl
      go_region
      clear g_12 q_12 c_12 p_12 o_12 s9 b0_12 x3 y0 y1 v1 v2 v4 f1 f2 f4 bu;generalize(((W9.setCell ⟨PB,1,none⟩ (yT uo cd uk)).setCell ⟨PB,2,none⟩ (yi cp)).setCell ⟨PB,4,none⟩ (.bool (decide (G<cp))))=WX at pX cX oX bX⊢;have bd_12:yB WX WX.drew:=(Below.refl _ _).drew;have p_13:=pX.l bd_12;have c_13:=cX.l bd_12;have o_13:=oX.l bd_12;have b0_13:=aa bX bd_12;clear pX cX oX bX bd_12
      go_goals
      have rg9:=p_13.range;have th9:=c_13.there 6 rfl;have cR:=c_13.sets (ypL qs (yT uo cd uk) cp ex (decide (G<cp)) un) rfl;have buR:=de (w.heap.size+1+1) (ypL qs (yT uo cd uk) cp ex (decide (G<cp)) un) 0 WX.drew;have bR:=buR.below b0_13 (show w.heap.size≤w.heap.size+1+1 by omega)
      have oR:=buR.own o_13 c_13 (by decide)
      go_upto_region 13 with fail
      refine wp_region_lit ?_;refine wpList_load_mid rfl 140 (.tmp 8) rfl PB 0 rfl (ypL qs (yT uo cd uk) cp ex (decide (G<cp)) un) _ rg9 underlying140 rfl (by kernel_rfl) ?_;refine wpList_store_mid rfl 140 (.tmp 6) (.tmp 93) rfl (w.heap.size+1+1) 0 (ypA qs (yT uo cd uk) cp ex (decide (G<cp)) un) rfl rfl th9 (by kernel_rfl) (by simp[Value.oneCell']) ?_;refine wpList_nil ?_;clear rg9 th9 buR p_13 c_13;change Exit.then _ _ _ _ (World.setCells WX.drew (w.heap.size+1+1) 0 (ypL qs (yT uo cd uk) cp ex (decide (G<cp)) un));generalize World.setCells WX.drew (w.heap.size+1+1) 0 (ypL qs (yT uo cd uk) cp ex (decide (G<cp)) un)=WR at cR bR oR⊢
      go_goals
      rename_i KK hKK
      refine hKK _ _ (wp_ret ?_);clear hKK;obtain⟨s0,s1,s2,s3,s4,s5⟩:=cR.cs6;refine bodyPost_ret (v:=(ypV qs (yT uo cd uk) cp ex (decide (G<cp)) un)) (by simp[results,results130,go_sem,s0,s1,s2,s3,s4,s5]) rfl ?_;rw[HNZ.out HDN.out];exact⟨_,rfl,oR,bR⟩
end Go.Proofs.YtdhpndnncmagiaaGreatDoor

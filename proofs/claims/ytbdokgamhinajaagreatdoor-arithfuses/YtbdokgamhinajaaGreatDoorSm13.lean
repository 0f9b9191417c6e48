/-
  Texts laid together: Gr3, Roo1, As1.
-/
import Derived.ChangeMaps4
import Derived.Test.YtbdokgamhinajaaGreatDoorSm12
set_option maxRecDepth 100000
set_option maxHeartbeats 4000000
namespace Go.Proofs.YtbdokgamhinajaaGreatDoor
open _root_.Go.Proofs.Tryz
open Go.RowKit Go.ChangeMaps Go.MapKept
theorem sS {P:Program}{t k e:TypeId}(ht:P.underlying t=some (.map k e))(hk:P.underlying k=some (.int .i64)){w W:World}{r:Nat}{es:Array MapEntry}{c:Nat}(hb:W.heap[r]? =some (.map es c))(hr:w.heap.size≤r)(bel:yB w W)(x:Int)(v:Value)(hno:Instr.findNow (.int .i64) (yi x) es.toList 0=some none):
  ∃W',(Instr.mapUpdate t (.map (some r)) (yi x) v).run P W= .ok () W'∧W'.heap[r]? =some (.map (es.push ⟨yi x,v,c⟩) (c+1))∧yB w W':=by
 have hkey:IsKey (.int .i64) (yi x):=rfl;refine⟨setBlock W r (.map (es.push ⟨yi x,v,c⟩) (c+1)), ?_, ?_, ?_⟩
 ·simp[Instr.mapUpdate,run_underlying ht,MapKept.run_getObj_map hb,run_checkKey hk hkey,run_findKey hk hno,MapKept.run_setObj_map _ hb,Result.andThen,setBlock]
 ·exact(MapKept.heap_set hb).1
 ·refine⟨bel.os,bel.tape,bel.output, ?_,fun i hi=> ?_⟩
  ·show w.heap.size≤(W.heap.setIfInBounds r _).size
   rw[Array.size_setIfInBounds];exact bel.size
  ·show(W.heap.setIfInBounds r _)[i]? =_
   rw[(MapKept.heap_set (o':=Obj.map (es.push ⟨yi x,v,c⟩) (c+1)) hb).2 i (by omega)];exact bel.block i hi
theorem pj {P:Program}{t k e:TypeId}(ht:P.underlying t=some (.map k e))(hk:P.underlying k=some (.int .i64)){W:World}{r:Nat}{es:Array MapEntry}{c:Nat}(hb:W.heap[r]? =some (.map es c))(x:Int){i:Nat}{v:Value}(h:Instr.findNow (.int .i64) (yi x) es.toList 0=some (some (i,v))):
  (Instr.lookup t (.map (some r)) (yi x) false).run P W= .ok v W:=by
 have hkey:IsKey (.int .i64) (yi x):=rfl;simp[Instr.lookup,run_underlying ht,MapKept.run_getObj_map hb,run_checkKey hk hkey,run_findKey hk h,Result.andThen]
theorem Yc {P:Program}{t k e:TypeId}(ht:P.underlying t=some (.map k e))(hk:P.underlying k=some (.int .i64)){W:World}{r:Nat}{es:Array MapEntry}{c:Nat}(hb:W.heap[r]? =some (.map es c))(x:Int){z:Value}(hz:(zeroValue e).run P W= .ok z W)(h:Instr.findNow (.int .i64) (yi x) es.toList 0=some none):
  (Instr.lookup t (.map (some r)) (yi x) false).run P W= .ok z W:=by
 have hkey:IsKey (.int .i64) (yi x):=rfl;simp[Instr.lookup,run_underlying ht,MapKept.run_getObj_map hb,run_checkKey hk hkey,run_findKey hk h,hz,Result.andThen]
def Yd:Array MapEntry:= #[⟨yi 1,.func (.func 121) #[] #[],0⟩,⟨yi 2,.func (.func 122) #[] #[],1⟩,⟨yi 3,.func (.func 123) #[] #[],2⟩,⟨yi 4,.func (.func 124) #[] #[],3⟩,⟨yi 5,.func (.func 125) #[] #[],4⟩]
theorem Ye (w:World):yC 86 #[] w fun z w'=>z= .returned (.map (some w.heap.size))∧w'.heap[w.heap.size]? =some (.map Yd 5)∧yB w w':=by
 have ht:=underlying137;have hk:=underlying3;have hb0:(w.alloc (.map #[] 0)).heap[w.heap.size]? =some (.map #[] 0):=heap_alloc_new _ _;have b0:=af w (.map #[] 0);have e0:=run_makeMap (P:=Tryz.prog) 137 w;obtain⟨W1,e1,hb1,b1⟩:=sS ht hk hb0 (Nat.le_refl _) b0 1 (.func (.func 121) #[] #[]) rfl;obtain⟨W2,e2,hb2,b2⟩:=sS ht hk hb1 (Nat.le_refl _) b1 2 (.func (.func 122) #[] #[]) rfl;obtain⟨W3,e3,hb3,b3⟩:=sS ht hk hb2 (Nat.le_refl _) b2 3 (.func (.func 123) #[] #[]) rfl;obtain⟨W4,e4,hb4,b4⟩:=sS ht hk hb3 (Nat.le_refl _) b3 4 (.func (.func 124) #[] #[]) rfl;obtain⟨W5,e5,hb5,b5⟩:=sS ht hk hb4 (Nat.le_refl _) b4 5 (.func (.func 125) #[] #[]) rfl;have HB:Hid (W5.heap[w.heap.size]? =some (.map Yd 5)):=hb5;clear hb1 hb2 hb3 hb4 hb5 b1 b2 b3 b4 ht hk hb0
 go_enter func86,ntmps86
 go_wp2
 go_ret
 exact⟨rfl,HB.out,b5⟩
def gY (way half:Int)(odd neg:Bool):Bool:=
 if way=1 then(decide (0<half)||(decide (half=0)&&odd)) else if way=2 then decide (0≤half) else if way=4 then !neg else if way=5 then neg else false
theorem Yf (half:Int)(odd neg:Bool)(w:World):yC 121 #[.agg #[yi half,.bool odd,.bool neg]] w (yR w (.bool (gY 1 half odd neg))):=by
 have bA:=af w (.cells #[yi half,.bool odd,.bool neg] 176);have hv:gY 1 half odd neg=(decide (0<half)||(decide (half=0)&&odd)):=by simp[gY]
 rw[hv]
 by_cases h:0<half
 ·go_enter func121,ntmps121
  go_wp2
  go_ret
  exact⟨by simp[h],bA⟩
 ·have hf:decide (0<half)=false:=by simp;omega
  by_cases h0:half=0
  ·subst h0
   clear hv h hf
   go_enter func121,ntmps121
   go_wp2
   go_ret
   exact⟨by simp,bA⟩
  ·have h0f:(half==0)=false:=by simp;exact h0
   rw[hf,show decide (half=0)=false by simp;exact h0]
   clear hv
   go_enter func121,ntmps121
   go_wp2
   go_ret
   exact⟨by simp,bA⟩
theorem Yg (half:Int)(odd neg:Bool)(w:World):yC 122 #[.agg #[yi half,.bool odd,.bool neg]] w (yR w (.bool (gY 2 half odd neg))):=by
 have bA:=af w (.cells #[yi half,.bool odd,.bool neg] 176);have hv:gY 2 half odd neg=decide (0≤half):=by simp[gY]
 rw[hv];clear hv
 go_enter func122,ntmps122
 go_wp2
 go_ret
 exact⟨rfl,bA⟩
theorem Yh (half:Int)(odd neg:Bool)(w:World):yC 123 #[.agg #[yi half,.bool odd,.bool neg]] w (yR w (.bool (gY 3 half odd neg))):=by
 have hv:gY 3 half odd neg=false:=by simp[gY]
 have bA:=af w (.cells #[yi half,.bool odd,.bool neg] 176);rw[hv];clear hv
 go_enter func123,ntmps123
 go_wp2
 go_ret
 exact⟨rfl,bA⟩
theorem Yi (half:Int)(odd neg:Bool)(w:World):yC 124 #[.agg #[yi half,.bool odd,.bool neg]] w (yR w (.bool (gY 4 half odd neg))):=by
 have bA:=af w (.cells #[yi half,.bool odd,.bool neg] 176);have hv:gY 4 half odd neg= !neg:=by simp[gY]
 rw[hv];clear hv
 go_enter func124,ntmps124
 go_wp2
 go_ret
 exact⟨rfl,bA⟩
theorem Yj (half:Int)(odd neg:Bool)(w:World):yC 125 #[.agg #[yi half,.bool odd,.bool neg]] w (yR w (.bool (gY 5 half odd neg))):=by
 have bA:=af w (.cells #[yi half,.bool odd,.bool neg] 176);have hv:gY 5 half odd neg=neg:=by simp[gY]
 rw[hv];clear hv
 go_enter func125,ntmps125
 go_wp2
 go_ret
 exact⟨rfl,bA⟩
def io (R D:Int)(d:Nat):Nat:=if d=2^ (ai R*D.toNat) then 2^ (ai R*(D-1).toNat) else d
def gD (R D:Int)(d:Nat)(p:Int):Int:=if d=2^ (ai R*D.toNat) then p+1 else p
theorem Br (R D L G:Int)(gr:Bool)(v:Value)(d:Nat)(p:Int)(base:Nat)(w:World)(ho:Own w base 148 .u32 v (Dg.dg 4294967296 d))(hbs:base≤w.heap.size)(h1:1≤D)(h2:D≤120)(p1: -1000000≤p)(p2:p≤1000000):
  yC 132 #[ygV R D L G gr,.agg #[v,yi p]] w fun z w'=> ∃u,z= .returned (.agg #[u,yi (gD R D d p)])∧Own w' base 148 .u32 u (Dg.dg 4294967296 (io R D d))∧yB w w':=by
 obtain⟨ao,ca,hv⟩:=ho.rd.shape;subst hv;obtain⟨m,hm⟩: ∃m,(Dg.dg 4294967296 d).length=m:=⟨_,rfl⟩;have HE:Hid (∀w1,yC 153 #[ygV R D L G gr] w1 (Num w1 (2^ (ai R*D.toNat)))):=fun w1=>MX R D L G gr w1 h1 h2
 have HF:Hid (∀w1,yC 154 #[ygV R D L G gr] w1 (Num w1 (2^ (ai R*(D-1).toNat)))):=fun w1=>Ax R D L G gr w1 h1 h2
 obtain⟨X,hX⟩: ∃X,2^ (ai R*D.toNat)=X:=⟨_,rfl⟩;obtain⟨Y,hY⟩: ∃Y,2^ (ai R*(D-1).toNat)=Y:=⟨_,rfl⟩;rw[hX] at HE;rw[hY] at HF;have HCM:Hid (∀u w1,Rd w1 .u32 (.slice ao m ca) (Dg.dg 4294967296 d)→Rd w1 .u32 u (Dg.dg 4294967296 X)→yC 108 #[.slice ao m ca,u] w1 (yR w1 (yi (dm d (X:Int))))):=fun u w1 r1 r2=>by
  have:=jF _ u _ _ w1 r1 r2 (Dg.small_dg _ _ (by omega)) (Dg.small_dg _ _ (by omega)) (Dg.norm_dg _ _ (by omega)) (Dg.norm_dg _ _ (by omega))
  rwa [Dg.vl_dg _ _ (by omega),Dg.vl_dg _ _ (by omega)] at this
 obtain⟨cd,hcd⟩: ∃x,io R D d=x:=⟨_,rfl⟩;obtain⟨cp,hcp⟩: ∃x,gD R D d p=x:=⟨_,rfl⟩;have HPOS:Hid (d=X→Y=cd∧p+1=cp):=fun h=>by
  rw[←hcd,←hcp,←hY];unfold io gD;rw[if_pos (h.trans hX.symm),if_pos (h.trans hX.symm)];exact⟨rfl,rfl⟩
 have HNEG:Hid (¬d=X→d=cd∧p=cp):=fun h=>by
  rw[←hcd,←hcp];unfold io gD;rw[if_neg (fun e=>h (e.trans hX)),if_neg (fun e=>h (e.trans hX))]
  exact⟨rfl,rfl⟩
 rw[hcd,hcp];clear hcd hcp;rw[hm] at ho⊢;obtain⟨ds,hds⟩: ∃ds,Dg.dg 4294967296 d=ds:=⟨_,rfl⟩;have HDS:Hid (Dg.dg 4294967296 d=ds):=hds;rw[hds] at ho HCM;clear hX hY hm hds;obtain⟨cc,hcc⟩: ∃c,dm d (X:Int)=c:=⟨_,rfl⟩;have hc0:cc=0↔d=X:=by
  rw[←hcc];unfold dm
  split
  ·omega
  ·split<;>omega
 rw[hcc] at HCM;clear hcc;have b1:=aa (aa (af w (.cells (ygA R D L G gr) 140)) (af _ (.cells #[.slice ao m ca,yi p] 182))) (af _ (.cells #[yN,yi 0] 182));have g1:=((ah w (ygL R D L G gr) 140).l (af _ (.cells #[.slice ao m ca,yi p] 182))).l (af _ (.cells #[yN,yi 0] 182));have s1:=(ah (w.alloc (.cells (ygA R D L G gr) 140)) [.slice ao m ca,yi p] 182).l (af _ (.cells #[yN,yi 0] 182));have z1:=ah ((w.alloc (.cells (ygA R D L G gr) 140)).alloc (.cells #[.slice ao m ca,yi p] 182)) [yN,yi 0] 182;simp only[World.size_alloc] at s1 z1;have bd:=aa b1 ((Below.refl _ _).drew);replace g1:=g1.drew;replace s1:=s1.drew;replace z1:=z1.drew;have o1:=ho.l bd;clear b1 ho;obtain⟨c0,c1,c2,c3,c4⟩:=g1.cs5;have d0:=s1.c 0 rfl;have ne1:w.heap.size+1+1≠w.heap.size:=by omega
 have ne2:w.heap.size+1+1≠w.heap.size+1:=by omega
 have w1:IntKind.i64.wrap (p+1)=p+1:=IntWalk.i64_in _ ⟨by omega,by omega⟩
 go_enter func132,ntmps132
 go_wp2_with fail
 go_region_held3 (fun wq=>wq.cell? ⟨w.heap.size+1,0,none⟩=some (.slice ao m ca)∧(wq.cell? ⟨w.heap.size,0,none⟩=some (yi R)∧wq.cell? ⟨w.heap.size,1,none⟩=some (yi D)∧wq.cell? ⟨w.heap.size,2,none⟩=some (yi L)∧wq.cell? ⟨w.heap.size,3,none⟩=some (yi G)∧wq.cell? ⟨w.heap.size,4,none⟩=some (.bool gr))) (go_keep) (first
  | (go_at_call 153;refine(HE.out _).mono ?_;rintro z w3 ⟨v3,rfl,o3,b3⟩;have b03:=aa bd b3;have g3:=g1.l b3;have s3:=s1.l b3;have z3:=z1.l b3;have o13:=o1.l b3;obtain⟨k0,k1,k2,k3,k4⟩:=g3.cs5;have k5:=s3.c 0 rfl)
  | (go_at_call 108;refine(HCM.out _ w3 (HDS.out▸o13.rd) o3.rd).mono ?_;rintro z w4 ⟨rfl,b4⟩;have b04:=aa b03 b4;have g4:=g3.l b4;have s4:=s3.l b4;have z4:=z3.l b4;have o14:=o13.l b4;obtain⟨j0,j1,j2,j3,j4⟩:=g4.cs5;have j5:=s4.c 0 rfl))
 by_cases h0:cc=0
 ·obtain⟨h3,h4⟩:=HPOS.out (hc0.1 h0)
  subst h3;subst h4;subst h0;clear hc0 HPOS HNEG k0 k1 k2 k3 k4 k5 c0 c1 c2 c3 c4 d0 o3 g1 g3 s1 s3 z1 z3 o1 o13 bd b03 b3 b4 HE HCM;have bd4:yB w4 w4.drew:=(Below.refl _ _).drew;have b05:=aa b04 bd4;have g5:=g4.l bd4;have s5:=s4.l bd4;have z5:=z4.l bd4;clear b04 g4 s4 z4 o14 bd4 j0 j1 j2 j3 j4 j5;obtain⟨j0,j1,j2,j3,j4⟩:=g5.cs5;have j5:=s5.c 1 rfl
  go_goals
  go_wp2_with fail
  go_region_held3 (fun wq=>wq.cell? ⟨w.heap.size+1,1,none⟩=some (yi p)∧(wq.cell? ⟨w.heap.size,0,none⟩=some (yi R)∧wq.cell? ⟨w.heap.size,1,none⟩=some (yi D)∧wq.cell? ⟨w.heap.size,2,none⟩=some (yi L)∧wq.cell? ⟨w.heap.size,3,none⟩=some (yi G)∧wq.cell? ⟨w.heap.size,4,none⟩=some (.bool gr))) (go_keep) (first
   | (go_at_call 154;refine(HF.out _).mono ?_;rintro z w6 ⟨v6,rfl,o6,b6⟩;have b06:=aa b05 b6;have g6:=g5.l b6;have s6:=s5.l b6;have z6:=z5.l b6;obtain⟨k0,k1,k2,k3,k4⟩:=g6.cs5;have k5:=s6.c 1 rfl;obtain⟨y0,y1⟩:=z6.cs2;have f0:=z6.f 0;have f1:=z6.f 1;obtain⟨so,sc,hs⟩:=o6.rd.shape;subst hs))
  all_goals go_wp2
  have z7:au _ _ _ [yT so Y sc,yi (p+1)]:=(z6.set 0 (yT so Y sc)).set 1 (yi (p+1));have o7:=(o6.setE z6 (by decide) 0 (yT so Y sc)).setE (z6.set 0 (yT so Y sc)) (by decide) 1 (yi (p+1));have b7:=(b06.setCell (p:=⟨w.heap.size+1+1,0,none⟩) (by show w.heap.size≤w.heap.size+1+1;omega) (yT so Y sc)).setCell (p:=⟨w.heap.size+1+1,1,none⟩) (by show w.heap.size≤w.heap.size+1+1;omega) (yi (p+1))
  obtain⟨x0,x1⟩:=z7.cs2;refine bodyPost_ret (v:= .agg #[yT so Y sc,yi (p+1)]) (by simp[results,results132,go_sem,x0,x1]) rfl ?_;exact⟨_,rfl,o7.lower (Nat.le_trans hbs b05.size),b7⟩
 ·obtain⟨h3,h4⟩:=HNEG.out (fun h=>h0 (hc0.2 h))
  subst h3;subst h4;have hcf:(cc==0)=false:=by simp;exact h0
  clear hc0 HPOS HNEG k0 k1 k2 k3 k4 k5 c0 c1 c2 c3 c4 d0 o3 g1 g3 s1 s3 z1 z3 o1 o13 bd b03 b3 b4 HE HCM HF j0 j1 j2 j3 j4 g4;have j6:=s4.c 1 rfl;obtain⟨y0,y1⟩:=z4.cs2;have f0:=z4.f 0;have f1:=z4.f 1
  go_goals
  go_wp2
  have z7:au _ _ _ [.slice ao m ca,yi p]:=(z4.set 0 (.slice ao m ca)).set 1 (yi p);have o7:=(o14.setE z4 (by decide) 0 (.slice ao m ca)).setE (z4.set 0 (.slice ao m ca)) (by decide) 1 (yi p);have b7:=(b04.setCell (p:=⟨w.heap.size+1+1,0,none⟩) (by show w.heap.size≤w.heap.size+1+1;omega) (.slice ao m ca)).setCell (p:=⟨w.heap.size+1+1,1,none⟩) (by show w.heap.size≤w.heap.size+1+1;omega) (yi p)
  obtain⟨x0,x1⟩:=z7.cs2;refine bodyPost_ret (v:= .agg #[.slice ao m ca,yi p]) (by simp[results,results132,go_sem,x0,x1]) rfl ?_;exact⟨_,rfl,HDS.out▸o7,b7⟩
open Go.RowKit
theorem aaT {n L j:Nat}(h:n<4294967296^L):(Dg.dg 4294967296 (n^j)).length≤L*j+1:=by
 refine Dg.dg_len_le 4294967296 _ _ (by omega) ?_;rw[Nat.pow_succ,Nat.pow_mul];have h1:n^j≤(4294967296^L)^j:=Nat.pow_le_pow_left (by omega) j;have h2:0< (4294967296^L)^j:=Nat.pow_pos (Nat.pow_pos (by omega));omega
theorem TH (x:Int)(w:World)(h0:0≤x)(h1:x≤4294967295):
  yC 200 #[.int .u64 x] w fun e w'=>e= .returned (yi (bitLen x.toNat:Nat))∧w'=w:=by
 go_enter func200,ntmps200
 go_wp2
 all_goals try (exfalso;have hz:=Lib.len8tab_size;omega)
 all_goals (go_ret;refine⟨congrArg Ending.returned (congrArg (Value.int IntKind.i64) ?_),rfl⟩)
 all_goals simp only[X4]
 ·exact qz 24 _ x.toNat (by have:=bitLen_shift x.toNat 24 (by omega);rw[this];congr 2;omega) (by omega)
 ·exact qz 16 _ x.toNat (by have:=bitLen_shift x.toNat 16 (by omega);rw[this];congr 2;omega) (by omega)
 ·exact qz 8 _ x.toNat (by have:=bitLen_shift x.toNat 8 (by omega);rw[this];congr 2;omega) (by omega)
 ·have hb:=bitLen_le8 x.toNat (by omega)
  have e1:=IntWalk.wrap64_in ((bitLen x.toNat:Nat):Int) ⟨by omega,by omega⟩;rw[e1,e1]
theorem LZ (k:Nat)(w:World)(h:k≤4294967295):
  yC 184 #[.int .u64 k] w fun e w'=>e= .returned (yi (bitLen k:Nat))∧w'=w:=by
 have h64:=TH k w (by omega) (by omega);rw[Int.toNat_natCast] at h64;have H:Hid _:=h64;clear h64
 go_enter func184,ntmps184
 go_wp2_with fail
 refine Calls.mono H.out ?_;rintro e w' ⟨rfl,rfl⟩
 go_wp2
 go_ret
 exact⟨rfl,rfl⟩
theorem aaU (k i:Nat):k/2^i=k/2^ (i+1)+k/2^ (i+1)+k/2^i % 2:=by
 rw[Nat.pow_succ,←Nat.div_div_eq_div_mul];omega
def aex (w:World)(n k bl:Nat)(pv iv:Value)(wr:World):Prop:=
 ∃j:Nat,j≤bl∧iv=yi ((j:Int)-1)∧Own wr w.heap.size 148 .u32 pv (Dg.dg 4294967296 (n^ (k/2^j)))∧yB w wr
theorem Iq (va:Value)(n k L:Nat)(w:World)(ha:Rd w .u32 va (Dg.dg 4294967296 n))(hL:n<4294967296^L)(hLk:L*k≤400000)(hLl:L≤400000)(hk:k≤1000000):
  yC 161 #[va,yi k] w (Num w (n^k)):=by
 have HA:Hid (Rd w .u32 va (Dg.dg 4294967296 n)):=ha;have hnl:(Dg.dg 4294967296 n).length≤L:=Dg.dg_len_le 4294967296 n L (by omega) hL;have HL: ∀j,j≤k→(Dg.dg 4294967296 (n^j)).length≤400001:=fun j hj=>by
  have hp:=aaT (j:=j) hL;have hlj:L*j≤L*k:=Nat.mul_le_mul (Nat.le_refl _) hj;omega
 have HT:Hid (∀j v wr,j≤k→yB w wr→Rd wr .u32 v (Dg.dg 4294967296 (n^j))→yC 116 #[v,va] wr (Num wr (n^ (j+1)))):=fun j v wr hj b r=>by
  have:=qC v va _ _ wr r (ha.l b) (Dg.small_dg _ _ (by omega)) (Dg.small_dg _ _ (by omega)) (by have:=HL j hj;omega) (by omega);rw[Dg.vl_dg _ _ (by omega),Dg.vl_dg _ _ (by omega),←Nat.pow_succ] at this;exact this
 have HS:Hid (∀j v wr,j≤k→Rd wr .u32 v (Dg.dg 4294967296 (n^j))→yC 116 #[v,v] wr (Num wr (n^ (j+j)))):=fun j v wr hj r=>by
  have:=qC v v _ _ wr r r (Dg.small_dg _ _ (by omega)) (Dg.small_dg _ _ (by omega)) (by have:=HL j hj;omega) (by have:=HL j hj;omega);rw[Dg.vl_dg _ _ (by omega),←Nat.pow_add] at this;exact this
 have HB:Hid (∀wr,yC 184 #[.int .u64 k] wr fun e w'=>e= .returned (yi (bitLen k:Nat))∧w'=wr):=fun wr=>LZ k wr (by omega)
 have hbl:bitLen k≤20:=bF k 20 (by omega);have hz:k/2^bitLen k=0:=Nat.div_eq_of_lt (bitLen_spec k).1;have o1:=zf w w.heap.size 148 1 (Nat.le_refl _);have b1:yB w (w.alloc (.cells #[.int .u32 ((1:Nat):Int)] 148)):=(Below.refl _ _).alloc (Nat.le_refl _) _;obtain⟨ao,ca,rfl⟩:=ha.shape;obtain⟨ma,hma⟩: ∃m,(Dg.dg 4294967296 n).length=m:=⟨_,rfl⟩;rw[hma] at HT HA⊢;clear ha hma hnl HL;obtain⟨bl,hbe⟩: ∃b,bitLen k=b:=⟨_,rfl⟩;rw[hbe] at HB hbl hz;clear hbe
 go_enter func161,ntmps161
 go_wp2_with fail
 refine(HB.out _).mono ?_;rintro e w' ⟨rfl,rfl⟩
 go_wp2
 have L0:aex w n k bl (.slice (some ⟨w.heap.size,0,none⟩) 1 1) (yi ((bl:Int)-1)) (w.alloc (.cells #[.int .u32 ((1:Nat):Int)] 148)):=⟨bl,Nat.le_refl _,rfl,by rw[hz];exact o1,b1⟩
 go_loopw [5,6] (aex w n k bl) (fun _ iv _=>(intOf iv+1).toNat)
 case atStart=>exact L0
 case round=>
  clear L0 o1 b1;obtain⟨j,hj,rfl,own,bel⟩:=hrel
  rcases Nat.eq_zero_or_pos j with h0|h0
  ·subst h0
   go_wp2
   go_ret
   refine⟨_,rfl, ?_,bel⟩;rw[show k/2^0=k by simp] at own
   exact own
  ·obtain⟨i,rfl⟩: ∃i,j=i+1:=⟨j-1,by omega⟩
   have hle:k/2^ (i+1)≤k:=Nat.div_le_self _ _;have hh:=aaU k i;have e1:((i+1:Nat):Int)-1=(i:Int):=by omega
   rw[e1]
   go_wp2_with fail
   refine(HS.out _ _ _ hle own.rd).mono ?_;rintro z w2 ⟨v2,rfl,o2,b2⟩;have b02:=aa bel b2;have o2:=o2.lower bel.size;clear own b2;have hq:((k:Int)/2^i).tmod 2=((k/2^i % 2:Nat):Int):=by
    have h1:(k:Int)/2^i=((k/2^i:Nat):Int):=by rw[Int.natCast_ediv,Int.natCast_pow];rfl
    rw[h1,Int.ofNat_tmod];rfl
   by_cases hodd:k/2^i % 2=1
   ·have hc:(((k:Int)/2^i).tmod 2==1)=true:=by rw[hq,hodd];rfl
    have hx:k/2^ (i+1)+k/2^ (i+1)≤k:=by have:=Nat.div_le_self k (2^i);omega
    have hy:k/2^ (i+1)+k/2^ (i+1)+1=k/2^i:=by omega
    have H2:Hid _:=HT.out _ v2 w2 hx b02 o2.rd;rw[hy] at H2;clear hq hh hodd
    go_wp2_with fail
    refine Calls.mono H2.out ?_;rintro z w3 ⟨v3,rfl,o3,b3⟩;have o3:=o3.lower b02.size;have b03:=aa b02 b3
    go_wp2
    go_roundw
    case rel=>exact⟨i,by omega,rfl,o3,b03⟩
    case measure=>simp[intOf]
   ·have hc:(((k:Int)/2^i).tmod 2==1)=false:=by
     rw[hq];have:k/2^i % 2=0:=by omega
     rw[this];rfl
    have hy:k/2^ (i+1)+k/2^ (i+1)=k/2^i:=by omega
    rw[hy] at o2;clear hq hh hodd
    go_wp2
    go_roundw
    case rel=>exact⟨i,by omega,rfl,o2,b02⟩
    case measure=>simp[intOf]
def Xo:Array MapEntry:= #[⟨yi 1,yi 4,0⟩,⟨yi 2,yi 1,1⟩,⟨yi 3,yi 5,2⟩]
theorem JQ (w:World):yC 145 #[] w fun z w'=>z= .returned (.map (some w.heap.size))∧w'.heap[w.heap.size]? =some (.map Xo 3)∧yB w w':=by
 have ht:=underlying193;have hk:=underlying67;have hb0:(w.alloc (.map #[] 0)).heap[w.heap.size]? =some (.map #[] 0):=heap_alloc_new _ _;have b0:=af w (.map #[] 0);have e0:=run_makeMap (P:=Tryz.prog) 193 w;obtain⟨W1,e1,hb1,b1⟩:=sS ht hk hb0 (Nat.le_refl _) b0 1 (yi 4) rfl;obtain⟨W2,e2,hb2,b2⟩:=sS ht hk hb1 (Nat.le_refl _) b1 2 (yi 1) rfl;obtain⟨W3,e3,hb3,b3⟩:=sS ht hk hb2 (Nat.le_refl _) b2 3 (yi 5) rfl;have HB:Hid (W3.heap[w.heap.size]? =some (.map Xo 3)):=hb3;clear hb1 hb2 hb3 b1 b2 ht hk hb0
 go_enter func145,ntmps145
 go_wp2
 go_ret
 exact⟨rfl,HB.out,b3⟩
def AZ (f:Int):Int:=if f=1 then 4 else if f=2 then 1 else 5
theorem A5 (f:Int)(hf:f=1∨f=2∨f=3)(w:World):yC 103 #[yi f] w (yR w (yi (AZ f))):=by
 have HN:Hid _:=JQ;have HL:Hid (∀W r,W.heap[r]? =some (.map Xo 3)→(Instr.lookup 193 (.map (some r)) (yi f) false).run Tryz.prog W= .ok (yi (AZ f)) W):=fun W r hm=>by
  rcases hf with rfl|rfl|rfl
  ·exact pj underlying193 underlying67 hm 1 (i:=0) rfl
  ·exact pj underlying193 underlying67 hm 2 (i:=1) rfl
  ·exact pj underlying193 underlying67 hm 3 (i:=2) rfl
 generalize AZ f=c at*;clear hf
 go_enter func103,ntmps103
 go_wp2_with fail
 refine(HN.out _).mono ?_;rintro z w1 ⟨rfl,hm,b1⟩;have hl:=HL.out w1 _ hm;clear hm HL HN
 go_wp2
 go_ret
 exact⟨rfl,b1⟩
theorem Pb (n wy fam R D L G c fl:Int)(gr:Bool)(w:World)
  (HN:yJ 103 #[yi fam] (yi c)):
  yC 59 #[ykV n wy fam R D L G gr,yi fl] w (yR w (.tuple #[yoV c false false yN 0,yi fl])):=by
 replace HN:Hid _:=HN;have ad:=af w (.cells (ykA n wy fam R D L G gr) 69);have ao:=af (w.alloc (.cells (ykA n wy fam R D L G gr) 69)) (.cells (yoA 0 false false yN 0) 76);have d0:=(ah w (ykL n wy fam R D L G gr) 69).l ao;have o0:=ah (w.alloc (.cells (ykA n wy fam R D L G gr) 69)) (yoL 0 false false yN 0) 76;rw[World.size_alloc] at o0;have b0:=aa ad ao;clear ad ao
 go_enter func59,ntmps59
 go_upto_region 1 with fail
 generalize(w.alloc (.cells (ykA n wy fam R D L G gr) 69)).alloc (.cells (yoA 0 false false yN 0) 76)=W0 at d0 o0 b0⊢;have y2:=d0.c 2 rfl
 go_wp2_with fail
 refine(HN.out _).mono ?_;rintro z w1 ⟨rfl,b1⟩;have o1:=o0.l b1;have b01:=aa b0 b1;clear y2 d0 o0 b0 b1 HN;have cR:au (((((w1.setCell ⟨w.heap.size+1,0,none⟩ (yi c)).setCell ⟨w.heap.size+1,1,none⟩ (.bool false)).setCell ⟨w.heap.size+1,2,none⟩ (.bool false)).setCell ⟨w.heap.size+1,3,none⟩ yN).setCell ⟨w.heap.size+1,4,none⟩ (yi 0)) (w.heap.size+1) 76 (yoL c false false yN 0):=(((((o1.set 0 (yi c)).set 1 (.bool false)).set 2 (.bool false)).set 3 yN).set 4 (yi 0));have bu:=((((ag w1 (w.heap.size+1) 0 (yi c)).trans (ag _ (w.heap.size+1) 1 (.bool false))).trans (ag _ (w.heap.size+1) 2 (.bool false))).trans (ag _ (w.heap.size+1) 3 yN)).trans (ag _ (w.heap.size+1) 4 (yi 0));have bR:=bu.below b01 (by omega);have hl:=run_loadVar_mid (P:=Tryz.prog) _ (w.heap.size+1) 0 76 (yoL c false false yN 0) _ cR.range underlying76 rfl (by kernel_rfl);have HH:Hid (_∧_):=⟨hl,bR⟩;obtain⟨z0,z1,z2,z3,z4⟩:=o1.cs5;have fz0:=o1.f 0;have fz1:=o1.f 1;have fz2:=o1.f 2;have fz3:=o1.f 3;have fz4:=o1.f 4;clear hl bR bu cR;clear o1 b01
 go_wp2
 obtain⟨hl,bR⟩:=HH.out;exact bodyPost_ret (aj results59 rfl rfl hl) rfl ⟨rfl,bR⟩
def aaV (wy:Int)(ng:Bool):Bool:=if wy=1∨wy=2 then true else if wy=4 then !ng else(ng&&decide (wy=5))
theorem CT (n wy fam R D L G:Int)(gr ng:Bool)(hw:1≤wy∧wy≤5)(w:World):yC 135 #[ykV n wy fam R D L G gr,.bool ng] w (yR w (.bool (aaV wy ng))):=by
 have h5:wy=1∨wy=2∨wy=3∨wy=4∨wy=5:=by omega
 have b0:=af w (.cells (ykA n wy fam R D L G gr) 69);clear hw
 rcases h5 with rfl|rfl|rfl|rfl|rfl
 all_goals
  cases ng
  all_goals
   go_enter func135,ntmps135
   go_wp2
   go_ret
   exact⟨rfl,b0⟩
theorem It (n wy fam R D L G c p fl er:Int)(gr ng:Bool)(ao:Option Addr)(la ca:Nat)(st:ByteArray)(w:World)
  (HE:yH w 88 #[yi n,yvV c ng (.slice ao la ca) p] (.tuple #[.string st,yi er])):
  yC 45 #[ykV n wy fam R D L G gr,yvV c ng (.slice ao la ca) p,yi fl] w (yR w (if er=0 then .tuple #[.string st,yi fl,yi 0] else .tuple #[.string ⟨#[]⟩,yi 0,yi er])):=by
 replace HE:Hid _:=HE;have ad:=af w (.cells (ykA n wy fam R D L G gr) 69);have av:=af (w.alloc (.cells (ykA n wy fam R D L G gr) 69)) (.cells (yvA c ng (.slice ao la ca) p) 100);have d0:=(ah w (ykL n wy fam R D L G gr) 69).l av;have v0:=ah (w.alloc (.cells (ykA n wy fam R D L G gr) 69)) (yvL c ng (.slice ao la ca) p) 100;rw[World.size_alloc] at v0;have b0:=aa ad av;clear ad av
 by_cases he:er=0
 ·rw[if_pos he]
  subst he
  go_enter func45,ntmps45
  go_upto_region 1 with fail
  generalize(w.alloc (.cells (ykA n wy fam R D L G gr) 69)).alloc (.cells (yvA c ng (.slice ao la ca) p) 100)=W0 at d0 v0 b0⊢;have y0:=d0.c 0 rfl;obtain⟨x0,x1,x2,x3⟩:=v0.cs4
  go_wp2_with fail
  refine(HE.out _ b0).mono ?_;rintro z w1 ⟨rfl,b1⟩;have b01:=aa b0 b1
  go_wp2
  go_ret3
  exact⟨rfl,b01⟩
 ·rw[if_neg he]
  have hef:(er==0)=false:=by simpa using he
  go_enter func45,ntmps45
  go_upto_region 1 with fail
  generalize(w.alloc (.cells (ykA n wy fam R D L G gr) 69)).alloc (.cells (yvA c ng (.slice ao la ca) p) 100)=W0 at d0 v0 b0⊢;have y0:=d0.c 0 rfl;obtain⟨x0,x1,x2,x3⟩:=v0.cs4
  go_wp2_with fail
  refine(HE.out _ b0).mono ?_;rintro z w1 ⟨rfl,b1⟩;have b01:=aa b0 b1;clear he
  go_wp2
  go_ret3
  exact⟨rfl,b01⟩
end Go.Proofs.YtbdokgamhinajaaGreatDoor

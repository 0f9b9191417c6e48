/-
  Texts laid together: Gr3, Roo1, As1.
-/
import Derived.ChangeMaps4
import Derived.Test.YtnhackdjplppjaaGreatDoorSp12
set_option maxRecDepth 100000
namespace Go.Proofs.YtnhackdjplppjaaGreatDoor
open Go.RowKit Go.ChangeMaps Go.MapKept
theorem put_new {P:Program} {t k e:TypeId} (ht:P.underlying t=some (.map k e)) (hk:P.underlying k=some (.int .i64)) {w W:World} {r:Nat} {es:Array MapEntry} {c:Nat} (hb:W.heap[r]? =some (.map es c)) (hr:w.heap.size≤r) (bel:Below w.heap.size w W) (x:Int) (v:Value) (hno:Instr.findNow (.int .i64) (yi x) es.toList 0=some none):
  ∃W',(Instr.mapUpdate t (.map (some r)) (yi x) v).run P W= .ok () W'∧W'.heap[r]? =some (.map (es.push ⟨yi x,v,c⟩) (c+1))∧Below w.heap.size w W':=by
 have hkey:IsKey (.int .i64) (yi x):=rfl;refine⟨setBlock W r (.map (es.push ⟨yi x,v,c⟩) (c+1)), ?_, ?_, ?_⟩
 ·simp[Instr.mapUpdate,run_underlying ht,MapKept.run_getObj_map hb,run_checkKey hk hkey,run_findKey hk hno,MapKept.run_setObj_map _ hb,Result.andThen,setBlock]
 ·exact(MapKept.heap_set hb).1
 ·refine⟨bel.os,bel.tape,bel.output, ?_,fun i hi=> ?_⟩
  ·show w.heap.size≤(W.heap.setIfInBounds r _).size
   rw[Array.size_setIfInBounds];exact bel.size
  ·show(W.heap.setIfInBounds r _)[i]? =_
   rw[(MapKept.heap_set (o':=Obj.map (es.push ⟨yi x,v,c⟩) (c+1)) hb).2 i (by omega)];exact bel.block i hi
theorem find_run {P:Program} {t k e:TypeId} (ht:P.underlying t=some (.map k e)) (hk:P.underlying k=some (.int .i64)) {W:World} {r:Nat} {es:Array MapEntry} {c:Nat} (hb:W.heap[r]? =some (.map es c)) (x:Int) {i:Nat} {v:Value} (h:Instr.findNow (.int .i64) (yi x) es.toList 0=some (some (i,v))):
  (Instr.lookup t (.map (some r)) (yi x) false).run P W= .ok v W:=by
 have hkey:IsKey (.int .i64) (yi x):=rfl;simp[Instr.lookup,run_underlying ht,MapKept.run_getObj_map hb,run_checkKey hk hkey,run_findKey hk h,Result.andThen]
theorem miss_run {P:Program} {t k e:TypeId} (ht:P.underlying t=some (.map k e)) (hk:P.underlying k=some (.int .i64)) {W:World} {r:Nat} {es:Array MapEntry} {c:Nat} (hb:W.heap[r]? =some (.map es c)) (x:Int) {z:Value} (hz:(zeroValue e).run P W= .ok z W) (h:Instr.findNow (.int .i64) (yi x) es.toList 0=some none):
  (Instr.lookup t (.map (some r)) (yi x) false).run P W= .ok z W:=by
 have hkey:IsKey (.int .i64) (yi x):=rfl;simp[Instr.lookup,run_underlying ht,MapKept.run_getObj_map hb,run_checkKey hk hkey,run_findKey hk h,hz,Result.andThen]
def wayE:Array MapEntry:= #[⟨yi 1,.func (.func 183) #[] #[],0⟩,⟨yi 2,.func (.func 184) #[] #[],1⟩,⟨yi 3,.func (.func 185) #[] #[],2⟩,⟨yi 4,.func (.func 186) #[] #[],3⟩,⟨yi 5,.func (.func 187) #[] #[],4⟩]
set_option maxHeartbeats 800000 in
theorem ways_any (w:World):Calls Tryz.prog 143 #[] w fun z w'=>z= .returned (.map (some w.heap.size))∧w'.heap[w.heap.size]? =some (.map wayE 5)∧Below w.heap.size w w':=by
 have ht:=Tryz.underlying197;have hk:=Tryz.underlying3;have hb0:(w.alloc (.map #[] 0)).heap[w.heap.size]? =some (.map #[] 0):=heap_alloc_new _ _;have b0:=below_alloc w (.map #[] 0);have e0:=run_makeMap (P:=Tryz.prog) 197 w;obtain⟨W1,e1,hb1,b1⟩:=put_new ht hk hb0 (Nat.le_refl _) b0 1 (.func (.func 183) #[] #[]) rfl;obtain⟨W2,e2,hb2,b2⟩:=put_new ht hk hb1 (Nat.le_refl _) b1 2 (.func (.func 184) #[] #[]) rfl;obtain⟨W3,e3,hb3,b3⟩:=put_new ht hk hb2 (Nat.le_refl _) b2 3 (.func (.func 185) #[] #[]) rfl;obtain⟨W4,e4,hb4,b4⟩:=put_new ht hk hb3 (Nat.le_refl _) b3 4 (.func (.func 186) #[] #[]) rfl;obtain⟨W5,e5,hb5,b5⟩:=put_new ht hk hb4 (Nat.le_refl _) b4 5 (.func (.func 187) #[] #[]) rfl;have HB:Hid (W5.heap[w.heap.size]? =some (.map wayE 5)):=hb5;clear hb1 hb2 hb3 hb4 hb5 b1 b2 b3 b4 ht hk hb0
 go_enter Tryz.func143,Tryz.ntmps143
 go_wp2
 go_ret
 exact⟨rfl,HB.out,b5⟩
def awayB (way half:Int) (odd neg:Bool):Bool:=
 if way=1 then(decide (0<half)||(decide (half=0)&&odd)) else if way=2 then decide (0≤half) else if way=4 then !neg else if way=5 then neg else false
theorem way1_any (half:Int) (odd neg:Bool) (w:World):Calls Tryz.prog 183 #[.agg #[yi half,.bool odd,.bool neg]] w fun z w'=>z= .returned (.bool (awayB 1 half odd neg))∧Below w.heap.size w w':=by
 have bA:=below_alloc w (.cells #[yi half,.bool odd,.bool neg] 231);have hv:awayB 1 half odd neg=(decide (0<half)||(decide (half=0)&&odd)):=by simp[awayB]
 rw[hv]
 by_cases h:0<half
 ·go_enter Tryz.func183,Tryz.ntmps183
  go_wp2
  go_ret
  exact⟨by simp[h],bA⟩
 ·have hf:decide (0<half)=false:=by simp;omega
  by_cases h0:half=0
  ·subst h0
   clear hv h hf
   go_enter Tryz.func183,Tryz.ntmps183
   go_wp2
   go_ret
   exact⟨by simp,bA⟩
  ·have h0f:(half==0)=false:=by simp;exact h0
   rw[hf,show decide (half=0)=false by simp;exact h0]
   clear hv
   go_enter Tryz.func183,Tryz.ntmps183
   go_wp2
   go_ret
   exact⟨by simp,bA⟩
theorem way2_any (half:Int) (odd neg:Bool) (w:World):Calls Tryz.prog 184 #[.agg #[yi half,.bool odd,.bool neg]] w fun z w'=>z= .returned (.bool (awayB 2 half odd neg))∧Below w.heap.size w w':=by
 have bA:=below_alloc w (.cells #[yi half,.bool odd,.bool neg] 231);have hv:awayB 2 half odd neg=decide (0≤half):=by simp[awayB]
 rw[hv];clear hv
 go_enter Tryz.func184,Tryz.ntmps184
 go_wp2
 go_ret
 exact⟨rfl,bA⟩
theorem way3_any (half:Int) (odd neg:Bool) (w:World):Calls Tryz.prog 185 #[.agg #[yi half,.bool odd,.bool neg]] w fun z w'=>z= .returned (.bool (awayB 3 half odd neg))∧Below w.heap.size w w':=by
 have hv:awayB 3 half odd neg=false:=by simp[awayB]
 have bA:=below_alloc w (.cells #[yi half,.bool odd,.bool neg] 231);rw[hv];clear hv
 go_enter Tryz.func185,Tryz.ntmps185
 go_wp2
 go_ret
 exact⟨rfl,bA⟩
theorem way4_any (half:Int) (odd neg:Bool) (w:World):Calls Tryz.prog 186 #[.agg #[yi half,.bool odd,.bool neg]] w fun z w'=>z= .returned (.bool (awayB 4 half odd neg))∧Below w.heap.size w w':=by
 have bA:=below_alloc w (.cells #[yi half,.bool odd,.bool neg] 231);have hv:awayB 4 half odd neg= !neg:=by simp[awayB]
 rw[hv];clear hv
 go_enter Tryz.func186,Tryz.ntmps186
 go_wp2
 go_ret
 exact⟨rfl,bA⟩
theorem way5_any (half:Int) (odd neg:Bool) (w:World):Calls Tryz.prog 187 #[.agg #[yi half,.bool odd,.bool neg]] w fun z w'=>z= .returned (.bool (awayB 5 half odd neg))∧Below w.heap.size w w':=by
 have bA:=below_alloc w (.cells #[yi half,.bool odd,.bool neg] 231);have hv:awayB 5 half odd neg=neg:=by simp[awayB]
 rw[hv];clear hv
 go_enter Tryz.func187,Tryz.ntmps187
 go_wp2
 go_ret
 exact⟨rfl,bA⟩
def carD (R D:Int) (d:Nat):Nat:=if d=2^ (widthN R*D.toNat) then 2^ (widthN R*(D-1).toNat) else d
def carP (R D:Int) (d:Nat) (p:Int):Int:=if d=2^ (widthN R*D.toNat) then p+1 else p
set_option maxHeartbeats 1600000 in
theorem gcarried_any (R D L G:Int) (gr:Bool) (v:Value) (d:Nat) (p:Int) (base:Nat) (w:World) (ho:Own w base 141 .u32 v (Dg.dg 4294967296 d)) (hbs:base≤w.heap.size) (h1:1≤D) (h2:D≤120) (p1: -1000000≤p) (p2:p≤1000000):
  Calls Tryz.prog 192 #[ygV R D L G gr,.agg #[v,yi p]] w fun z w'=> ∃u,z= .returned (.agg #[u,yi (carP R D d p)])∧Own w' base 141 .u32 u (Dg.dg 4294967296 (carD R D d))∧Below w.heap.size w w':=by
 obtain⟨ao,ca,hv⟩:=ho.rd.shape;subst hv;obtain⟨m,hm⟩: ∃m,(Dg.dg 4294967296 d).length=m:=⟨_,rfl⟩;have HE:Hid (∀w1,Calls Tryz.prog 224 #[ygV R D L G gr] w1 (Num w1 (2^ (widthN R*D.toNat)))):=fun w1=>gend_any R D L G gr w1 h1 h2
 have HF:Hid (∀w1,Calls Tryz.prog 225 #[ygV R D L G gr] w1 (Num w1 (2^ (widthN R*(D-1).toNat)))):=fun w1=>gfirst_any R D L G gr w1 h1 h2
 obtain⟨X,hX⟩: ∃X,2^ (widthN R*D.toNat)=X:=⟨_,rfl⟩;obtain⟨Y,hY⟩: ∃Y,2^ (widthN R*(D-1).toNat)=Y:=⟨_,rfl⟩;rw[hX] at HE;rw[hY] at HF;have HCM:Hid (∀u w1,Rd w1 .u32 (.slice ao m ca) (Dg.dg 4294967296 d)→Rd w1 .u32 u (Dg.dg 4294967296 X)→Calls Tryz.prog 169 #[.slice ao m ca,u] w1 fun z w'=>z= .returned (yi (cmpI (d:Int) (X:Int)))∧Below w1.heap.size w1 w'):=fun u w1 r1 r2=>by
  have:=compare_any _ u _ _ w1 r1 r2 (Dg.small_dg _ _ (by omega)) (Dg.small_dg _ _ (by omega)) (Dg.norm_dg _ _ (by omega)) (Dg.norm_dg _ _ (by omega))
  rwa [Dg.vl_dg _ _ (by omega),Dg.vl_dg _ _ (by omega)] at this
 obtain⟨cd,hcd⟩: ∃x,carD R D d=x:=⟨_,rfl⟩;obtain⟨cp,hcp⟩: ∃x,carP R D d p=x:=⟨_,rfl⟩;have HPOS:Hid (d=X→Y=cd∧p+1=cp):=fun h=>by
  rw[←hcd,←hcp,←hY];unfold carD carP;rw[if_pos (h.trans hX.symm),if_pos (h.trans hX.symm)];exact⟨rfl,rfl⟩
 have HNEG:Hid (¬d=X→d=cd∧p=cp):=fun h=>by
  rw[←hcd,←hcp];unfold carD carP;rw[if_neg (fun e=>h (e.trans hX)),if_neg (fun e=>h (e.trans hX))]
  exact⟨rfl,rfl⟩
 rw[hcd,hcp];clear hcd hcp;rw[hm] at ho⊢;obtain⟨ds,hds⟩: ∃ds,Dg.dg 4294967296 d=ds:=⟨_,rfl⟩;have HDS:Hid (Dg.dg 4294967296 d=ds):=hds;rw[hds] at ho HCM;clear hX hY hm hds;obtain⟨cc,hcc⟩: ∃c,cmpI (d:Int) (X:Int)=c:=⟨_,rfl⟩;have hc0:cc=0↔d=X:=by
  rw[←hcc];unfold cmpI
  split
  ·omega
  ·split<;>omega
 rw[hcc] at HCM;clear hcc;have b1:=below_trans (below_trans (below_alloc w (.cells (ygL R D L G gr).toArray 159)) (below_alloc _ (.cells #[.slice ao m ca,yi p] 163))) (below_alloc _ (.cells #[.slice none 0 0,yi 0] 163));have g1:=((locE_new w (ygL R D L G gr) 159).later (below_alloc _ (.cells #[.slice ao m ca,yi p] 163))).later (below_alloc _ (.cells #[.slice none 0 0,yi 0] 163));have s1:=(locE_new (w.alloc (.cells (ygL R D L G gr).toArray 159)) [.slice ao m ca,yi p] 163).later (below_alloc _ (.cells #[.slice none 0 0,yi 0] 163));have z1:=locE_new ((w.alloc (.cells (ygL R D L G gr).toArray 159)).alloc (.cells #[.slice ao m ca,yi p] 163)) [.slice none 0 0,yi 0] 163;simp only[World.size_alloc] at s1 z1;have bd:=below_trans b1 ((Below.refl _ _).drew);replace g1:=g1.drew;replace s1:=s1.drew;replace z1:=z1.drew;have o1:=ho.later bd;clear b1 ho;obtain⟨c0,c1,c2,c3,c4⟩:=g1.cs5;have d0:=s1.cell 0 rfl;have ne1:w.heap.size+1+1≠w.heap.size:=by omega
 have ne2:w.heap.size+1+1≠w.heap.size+1:=by omega
 have w1:IntKind.i64.wrap (p+1)=p+1:=IntWalk.i64_in _ ⟨by omega,by omega⟩
 go_enter Tryz.func192,Tryz.ntmps192
 go_wp2_with fail
 go_region_held3 (fun wq=>wq.cell? ⟨w.heap.size+1,0,none⟩=some (.slice ao m ca)∧(wq.cell? ⟨w.heap.size,0,none⟩=some (yi R)∧wq.cell? ⟨w.heap.size,1,none⟩=some (yi D)∧wq.cell? ⟨w.heap.size,2,none⟩=some (yi L)∧wq.cell? ⟨w.heap.size,3,none⟩=some (yi G)∧wq.cell? ⟨w.heap.size,4,none⟩=some (.bool gr))) (go_keep) (first
  | (go_at_call 224;refine(HE.out _).mono ?_;rintro z w3 ⟨v3,rfl,o3,b3⟩;have b03:=below_trans bd b3;have g3:=g1.later b3;have s3:=s1.later b3;have z3:=z1.later b3;have o13:=o1.later b3;obtain⟨k0,k1,k2,k3,k4⟩:=g3.cs5;have k5:=s3.cell 0 rfl)
  | (go_at_call 169;refine(HCM.out _ w3 (HDS.out▸o13.rd) o3.rd).mono ?_;rintro z w4 ⟨rfl,b4⟩;have b04:=below_trans b03 b4;have g4:=g3.later b4;have s4:=s3.later b4;have z4:=z3.later b4;have o14:=o13.later b4;obtain⟨j0,j1,j2,j3,j4⟩:=g4.cs5;have j5:=s4.cell 0 rfl))
 by_cases h0:cc=0
 ·obtain⟨h3,h4⟩:=HPOS.out (hc0.1 h0)
  subst h3;subst h4;subst h0;clear hc0 HPOS HNEG k0 k1 k2 k3 k4 k5 c0 c1 c2 c3 c4 d0 o3 g1 g3 s1 s3 z1 z3 o1 o13 bd b03 b3 b4 HE HCM;have bd4:Below w4.heap.size w4 w4.drew:=(Below.refl _ _).drew;have b05:=below_trans b04 bd4;have g5:=g4.later bd4;have s5:=s4.later bd4;have z5:=z4.later bd4;clear b04 g4 s4 z4 o14 bd4 j0 j1 j2 j3 j4 j5;obtain⟨j0,j1,j2,j3,j4⟩:=g5.cs5;have j5:=s5.cell 1 rfl
  go_goals
  go_wp2_with fail
  go_region_held3 (fun wq=>wq.cell? ⟨w.heap.size+1,1,none⟩=some (yi p)∧(wq.cell? ⟨w.heap.size,0,none⟩=some (yi R)∧wq.cell? ⟨w.heap.size,1,none⟩=some (yi D)∧wq.cell? ⟨w.heap.size,2,none⟩=some (yi L)∧wq.cell? ⟨w.heap.size,3,none⟩=some (yi G)∧wq.cell? ⟨w.heap.size,4,none⟩=some (.bool gr))) (go_keep) (first
   | (go_at_call 225;refine(HF.out _).mono ?_;rintro z w6 ⟨v6,rfl,o6,b6⟩;have b06:=below_trans b05 b6;have g6:=g5.later b6;have s6:=s5.later b6;have z6:=z5.later b6;obtain⟨k0,k1,k2,k3,k4⟩:=g6.cs5;have k5:=s6.cell 1 rfl;obtain⟨y0,y1⟩:=z6.cs2;have f0:=z6.free 0;have f1:=z6.free 1;obtain⟨so,sc,hs⟩:=o6.rd.shape;subst hs))
  all_goals go_wp2
  have z7:LocE _ _ _ [.slice so (Dg.dg 4294967296 Y).length sc,yi (p+1)]:=(z6.set 0 (.slice so (Dg.dg 4294967296 Y).length sc)).set 1 (yi (p+1));have o7:=(o6.setE z6 (by decide) 0 (.slice so (Dg.dg 4294967296 Y).length sc)).setE (z6.set 0 (.slice so (Dg.dg 4294967296 Y).length sc)) (by decide) 1 (yi (p+1));have b7:=(b06.setCell (p:=⟨w.heap.size+1+1,0,none⟩) (by show w.heap.size≤w.heap.size+1+1;omega) (.slice so (Dg.dg 4294967296 Y).length sc)).setCell (p:=⟨w.heap.size+1+1,1,none⟩) (by show w.heap.size≤w.heap.size+1+1;omega) (yi (p+1))
  obtain⟨x0,x1⟩:=z7.cs2;refine bodyPost_ret (v:= .agg #[.slice so (Dg.dg 4294967296 Y).length sc,yi (p+1)]) (by simp[results,Tryz.results192,go_sem,x0,x1]) rfl ?_;exact⟨_,rfl,o7.lower (Nat.le_trans hbs b05.size),b7⟩
 ·obtain⟨h3,h4⟩:=HNEG.out (fun h=>h0 (hc0.2 h))
  subst h3;subst h4;have hcf:(cc==0)=false:=by simp;exact h0
  clear hc0 HPOS HNEG k0 k1 k2 k3 k4 k5 c0 c1 c2 c3 c4 d0 o3 g1 g3 s1 s3 z1 z3 o1 o13 bd b03 b3 b4 HE HCM HF j0 j1 j2 j3 j4 g4;have j6:=s4.cell 1 rfl;obtain⟨y0,y1⟩:=z4.cs2;have f0:=z4.free 0;have f1:=z4.free 1
  go_goals
  go_wp2
  have z7:LocE _ _ _ [.slice ao m ca,yi p]:=(z4.set 0 (.slice ao m ca)).set 1 (yi p);have o7:=(o14.setE z4 (by decide) 0 (.slice ao m ca)).setE (z4.set 0 (.slice ao m ca)) (by decide) 1 (yi p);have b7:=(b04.setCell (p:=⟨w.heap.size+1+1,0,none⟩) (by show w.heap.size≤w.heap.size+1+1;omega) (.slice ao m ca)).setCell (p:=⟨w.heap.size+1+1,1,none⟩) (by show w.heap.size≤w.heap.size+1+1;omega) (yi p)
  obtain⟨x0,x1⟩:=z7.cs2;refine bodyPost_ret (v:= .agg #[.slice ao m ca,yi p]) (by simp[results,Tryz.results192,go_sem,x0,x1]) rfl ?_;exact⟨_,rfl,HDS.out▸o7,b7⟩
end Go.Proofs.YtnhackdjplppjaaGreatDoor
namespace Go.Proofs.YtnhackdjplppjaaGreatDoor
open Go.RowKit
theorem pow_len {n L j:Nat} (h:n<4294967296^L):(Dg.dg 4294967296 (n^j)).length≤L*j+1:=by
 refine Dg.dg_len_le 4294967296 _ _ (by omega) ?_;rw[Nat.pow_succ,Nat.pow_mul];have h1:n^j≤(4294967296^L)^j:=Nat.pow_le_pow_left (by omega) j;have h2:0< (4294967296^L)^j:=Nat.pow_pos (Nat.pow_pos (by omega));omega
set_option maxHeartbeats 4000000 in
theorem len64_int (x:Int) (w:World) (h0:0≤x) (h1:x≤4294967295):
  Calls Tryz.prog 236 #[.int .u64 x] w fun e w'=>e= .returned (yi (bitLen x.toNat:Nat))∧w'=w:=by
 go_enter Tryz.func236,Tryz.ntmps236
 go_wp2
 all_goals try (exfalso;have hz:=Lib.len8tab_size;omega)
 all_goals (go_ret;refine⟨congrArg Ending.returned (congrArg (Value.int IntKind.i64) ?_),rfl⟩)
 all_goals simp only[tab_at]
 ·exact close_len 24 _ x.toNat (by have:=bitLen_shift x.toNat 24 (by omega);rw[this];congr 2;omega) (by omega)
 ·exact close_len 16 _ x.toNat (by have:=bitLen_shift x.toNat 16 (by omega);rw[this];congr 2;omega) (by omega)
 ·exact close_len 8 _ x.toNat (by have:=bitLen_shift x.toNat 8 (by omega);rw[this];congr 2;omega) (by omega)
 ·have hb:=bitLen_le8 x.toNat (by omega)
  have e1:=IntWalk.wrap64_in ((bitLen x.toNat:Nat):Int) ⟨by omega,by omega⟩;rw[e1,e1]
theorem bitsLen_any (k:Nat) (w:World) (h:k≤4294967295):
  Calls Tryz.prog 229 #[.int .u64 k] w fun e w'=>e= .returned (yi (bitLen k:Nat))∧w'=w:=by
 have h64:=len64_int (k:Int) w (by omega) (by omega);rw[Int.toNat_natCast] at h64;have H:Hid _:=h64;clear h64
 go_enter Tryz.func229,Tryz.ntmps229
 go_wp2_with fail
 refine Calls.mono H.out ?_;rintro e w' ⟨rfl,rfl⟩
 go_wp2
 go_ret
 exact⟨rfl,rfl⟩
theorem half_up (k i:Nat):k/2^i=k/2^ (i+1)+k/2^ (i+1)+k/2^i % 2:=by
 rw[Nat.pow_succ,←Nat.div_div_eq_div_mul];omega
def PowR (w:World) (n k bl:Nat) (pv iv:Value) (wr:World):Prop:=
 ∃j:Nat,j≤bl∧iv=yi ((j:Int)-1)∧Own wr w.heap.size 141 .u32 pv (Dg.dg 4294967296 (n^ (k/2^j)))∧Below w.heap.size w wr
set_option maxHeartbeats 1600000 in
theorem power_any (va:Value) (n k L:Nat) (w:World) (ha:Rd w .u32 va (Dg.dg 4294967296 n)) (hL:n<4294967296^L) (hLk:L*k≤400000) (hLl:L≤400000) (hk:k≤1000000):
  Calls Tryz.prog 215 #[va,yi k] w (Num w (n^k)):=by
 have HA:Hid (Rd w .u32 va (Dg.dg 4294967296 n)):=ha;have hnl:(Dg.dg 4294967296 n).length≤L:=Dg.dg_len_le 4294967296 n L (by omega) hL;have HL: ∀j,j≤k→(Dg.dg 4294967296 (n^j)).length≤400001:=fun j hj=>by
  have hp:=pow_len (j:=j) hL;have hlj:L*j≤L*k:=Nat.mul_le_mul (Nat.le_refl _) hj;omega
 have HT:Hid (∀j v wr,j≤k→Below w.heap.size w wr→Rd wr .u32 v (Dg.dg 4294967296 (n^j))→Calls Tryz.prog 173 #[v,va] wr (Num wr (n^ (j+1)))):=fun j v wr hj b r=>by
  have:=times_any v va _ _ wr r (ha.later b) (Dg.small_dg _ _ (by omega)) (Dg.small_dg _ _ (by omega)) (by have:=HL j hj;omega) (by omega);rw[Dg.vl_dg _ _ (by omega),Dg.vl_dg _ _ (by omega),←Nat.pow_succ] at this;exact this
 have HS:Hid (∀j v wr,j≤k→Rd wr .u32 v (Dg.dg 4294967296 (n^j))→Calls Tryz.prog 173 #[v,v] wr (Num wr (n^ (j+j)))):=fun j v wr hj r=>by
  have:=times_any v v _ _ wr r r (Dg.small_dg _ _ (by omega)) (Dg.small_dg _ _ (by omega)) (by have:=HL j hj;omega) (by have:=HL j hj;omega);rw[Dg.vl_dg _ _ (by omega),←Nat.pow_add] at this;exact this
 have HB:Hid (∀wr,Calls Tryz.prog 229 #[.int .u64 k] wr fun e w'=>e= .returned (yi (bitLen k:Nat))∧w'=wr):=fun wr=>bitsLen_any k wr (by omega)
 have hbl:bitLen k≤20:=bitLen_le_of k 20 (by omega);have hz:k/2^bitLen k=0:=Nat.div_eq_of_lt (bitLen_spec k).1;have o1:=own_digit w w.heap.size 141 1 (Nat.le_refl _);have b1:Below w.heap.size w (w.alloc (.cells #[.int .u32 ((1:Nat):Int)] 141)):=(Below.refl _ _).alloc (Nat.le_refl _) _;obtain⟨ao,ca,rfl⟩:=ha.shape;obtain⟨ma,hma⟩: ∃m,(Dg.dg 4294967296 n).length=m:=⟨_,rfl⟩;rw[hma] at HT HA⊢;clear ha hma hnl HL;obtain⟨bl,hbe⟩: ∃b,bitLen k=b:=⟨_,rfl⟩;rw[hbe] at HB hbl hz;clear hbe
 go_enter Tryz.func215,Tryz.ntmps215
 go_wp2_with fail
 refine(HB.out _).mono ?_;rintro e w' ⟨rfl,rfl⟩
 go_wp2
 have L0:PowR w n k bl (.slice (some ⟨w.heap.size,0,none⟩) 1 1) (yi ((bl:Int)-1)) (w.alloc (.cells #[.int .u32 ((1:Nat):Int)] 141)):=⟨bl,Nat.le_refl _,rfl,by rw[hz];exact o1,b1⟩
 go_loopw [5,6] (PowR w n k bl) (fun _ iv _=>(intOf iv+1).toNat)
 case atStart=>exact L0
 case round=>
  clear L0 o1 b1;obtain⟨j,hj,rfl,own,bel⟩:=hrel
  rcases Nat.eq_zero_or_pos j with h0|h0
  ·subst h0
   go_wp2
   go_ret
   refine⟨_,rfl, ?_,bel⟩;rw[show k/2^0=k by simp] at own
   exact own
  ·obtain⟨i,rfl⟩: ∃i,j=i+1:=⟨j-1,by omega⟩
   have hle:k/2^ (i+1)≤k:=Nat.div_le_self _ _;have hh:=half_up k i;have e1:((i+1:Nat):Int)-1=(i:Int):=by omega
   rw[e1]
   go_wp2_with fail
   refine(HS.out _ _ _ hle own.rd).mono ?_;rintro z w2 ⟨v2,rfl,o2,b2⟩;have b02:=below_trans bel b2;have o2:=o2.lower bel.size;clear own b2;have hq:((k:Int)/2^i).tmod 2=((k/2^i % 2:Nat):Int):=by
    have h1:(k:Int)/2^i=((k/2^i:Nat):Int):=by rw[Int.natCast_ediv,Int.natCast_pow];rfl
    rw[h1,Int.ofNat_tmod];rfl
   by_cases hodd:k/2^i % 2=1
   ·have hc:(((k:Int)/2^i).tmod 2==1)=true:=by rw[hq,hodd];rfl
    have hx:k/2^ (i+1)+k/2^ (i+1)≤k:=by have:=Nat.div_le_self k (2^i);omega
    have hy:k/2^ (i+1)+k/2^ (i+1)+1=k/2^i:=by omega
    have H2:Hid _:=HT.out _ v2 w2 hx b02 o2.rd;rw[hy] at H2;clear hq hh hodd
    go_wp2_with fail
    refine Calls.mono H2.out ?_;rintro z w3 ⟨v3,rfl,o3,b3⟩;have o3:=o3.lower b02.size;have b03:=below_trans b02 b3
    go_wp2
    go_roundw
    case rel=>exact⟨i,by omega,rfl,o3,b03⟩
    case measure=>simp[intOf]
   ·have hc:(((k:Int)/2^i).tmod 2==1)=false:=by
     rw[hq];have:k/2^i % 2=0:=by omega
     rw[this];rfl
    have hy:k/2^ (i+1)+k/2^ (i+1)=k/2^i:=by omega
    rw[hy] at o2;clear hq hh hodd
    go_wp2
    go_roundw
    case rel=>exact⟨i,by omega,rfl,o2,b02⟩
    case measure=>simp[intOf]
end Go.Proofs.YtnhackdjplppjaaGreatDoor
namespace Go.Proofs.YtnhackdjplppjaaGreatDoor
open Go.RowKit Go.ChangeMaps Go.MapKept
def nothE:Array MapEntry:= #[⟨yi 1,yi 4,0⟩,⟨yi 2,yi 1,1⟩,⟨yi 3,yi 5,2⟩]
set_option maxHeartbeats 800000 in
theorem nothings_any (w:World):Calls Tryz.prog 211 #[] w fun z w'=>z= .returned (.map (some w.heap.size))∧w'.heap[w.heap.size]? =some (.map nothE 3)∧Below w.heap.size w w':=by
 have ht:=Tryz.underlying244;have hk:=Tryz.underlying91;have hb0:(w.alloc (.map #[] 0)).heap[w.heap.size]? =some (.map #[] 0):=heap_alloc_new _ _;have b0:=below_alloc w (.map #[] 0);have e0:=run_makeMap (P:=Tryz.prog) 244 w;obtain⟨W1,e1,hb1,b1⟩:=put_new ht hk hb0 (Nat.le_refl _) b0 1 (yi 4) rfl;obtain⟨W2,e2,hb2,b2⟩:=put_new ht hk hb1 (Nat.le_refl _) b1 2 (yi 1) rfl;obtain⟨W3,e3,hb3,b3⟩:=put_new ht hk hb2 (Nat.le_refl _) b2 3 (yi 5) rfl;have HB:Hid (W3.heap[w.heap.size]? =some (.map nothE 3)):=hb3;clear hb1 hb2 hb3 b1 b2 ht hk hb0
 go_enter Tryz.func211,Tryz.ntmps211
 go_wp2
 go_ret
 exact⟨rfl,HB.out,b3⟩
def notC (f:Int):Int:=if f=1 then 4 else if f=2 then 1 else 5
set_option maxHeartbeats 800000 in
theorem fnothing_any (f:Int) (hf:f=1∨f=2∨f=3) (w:World):Calls Tryz.prog 165 #[yi f] w fun z w'=>z= .returned (yi (notC f))∧Below w.heap.size w w':=by
 have HN:Hid _:=nothings_any;have HL:Hid (∀W r,W.heap[r]? =some (.map nothE 3)→(Instr.lookup 244 (.map (some r)) (yi f) false).run Tryz.prog W= .ok (yi (notC f)) W):=fun W r hm=>by
  rcases hf with rfl|rfl|rfl
  ·exact find_run Tryz.underlying244 Tryz.underlying91 hm 1 (i:=0) rfl
  ·exact find_run Tryz.underlying244 Tryz.underlying91 hm 2 (i:=1) rfl
  ·exact find_run Tryz.underlying244 Tryz.underlying91 hm 3 (i:=2) rfl
 generalize notC f=c at*;clear hf
 go_enter Tryz.func165,Tryz.ntmps165
 go_wp2_with fail
 refine(HN.out _).mono ?_;rintro z w1 ⟨rfl,hm,b1⟩;have hl:=HL.out w1 _ hm;clear hm HL HN
 go_wp2
 go_ret
 exact⟨rfl,b1⟩
set_option maxHeartbeats 3200000 in
theorem dnothing_W (n wy fam R D L G c fl:Int) (gr:Bool) (w:World)
  (HN: ∀w1,Calls Tryz.prog 165 #[yi fam] w1 fun z w'=>z= .returned (yi c)∧Below w1.heap.size w1 w'):
  Calls Tryz.prog 108 #[ykV n wy fam R D L G gr,yi fl] w fun z w'=>z= .returned (.tuple #[yoV c false false (.slice none 0 0) 0,yi fl])∧Below w.heap.size w w':=by
 replace HN:Hid _:=HN;have ad:=below_alloc w (.cells (ykL n wy fam R D L G gr).toArray 93);have ao:=below_alloc (w.alloc (.cells (ykL n wy fam R D L G gr).toArray 93)) (.cells (yoL 0 false false (.slice none 0 0) 0).toArray 98);have d0:=(locE_new w (ykL n wy fam R D L G gr) 93).later ao;have o0:=locE_new (w.alloc (.cells (ykL n wy fam R D L G gr).toArray 93)) (yoL 0 false false (.slice none 0 0) 0) 98;rw[World.size_alloc] at o0;have b0:=below_trans ad ao;clear ad ao
 go_enter Tryz.func108,Tryz.ntmps108
 go_upto_region 1 with fail
 generalize(w.alloc (.cells (ykL n wy fam R D L G gr).toArray 93)).alloc (.cells (yoL 0 false false (.slice none 0 0) 0).toArray 98)=W0 at d0 o0 b0⊢;have y2:=d0.cell 2 rfl
 go_wp2_with fail
 refine(HN.out _).mono ?_;rintro z w1 ⟨rfl,b1⟩;have o1:=o0.later b1;have b01:=below_trans b0 b1;clear y2 d0 o0 b0 b1 HN;have cR:LocE (((((w1.setCell ⟨w.heap.size+1,0,none⟩ (yi c)).setCell ⟨w.heap.size+1,1,none⟩ (.bool false)).setCell ⟨w.heap.size+1,2,none⟩ (.bool false)).setCell ⟨w.heap.size+1,3,none⟩ (.slice none 0 0)).setCell ⟨w.heap.size+1,4,none⟩ (yi 0)) (w.heap.size+1) 98 (yoL c false false (.slice none 0 0) 0):=(((((o1.set 0 (yi c)).set 1 (.bool false)).set 2 (.bool false)).set 3 (.slice none 0 0)).set 4 (yi 0));have bu:=((((but_set w1 (w.heap.size+1) 0 (yi c)).trans (but_set _ (w.heap.size+1) 1 (.bool false))).trans (but_set _ (w.heap.size+1) 2 (.bool false))).trans (but_set _ (w.heap.size+1) 3 (.slice none 0 0))).trans (but_set _ (w.heap.size+1) 4 (yi 0));have bR:=bu.below b01 (by omega);have hl:=run_loadVar_mid (P:=Tryz.prog) _ (w.heap.size+1) 0 98 (yoL c false false (.slice none 0 0) 0) _ cR.range Tryz.underlying98 rfl (by kernel_rfl);have HH:Hid (_∧_):=⟨hl,bR⟩;obtain⟨z0,z1,z2,z3,z4⟩:=o1.cs5;have fz0:=o1.free 0;have fz1:=o1.free 1;have fz2:=o1.free 2;have fz3:=o1.free 3;have fz4:=o1.free 4;clear hl bR bu cR;clear o1 b01
 go_wp2
 obtain⟨hl,bR⟩:=HH.out;exact bodyPost_ret (results_two Tryz.results108 rfl rfl hl) rfl ⟨rfl,bR⟩
def outB (wy:Int) (ng:Bool):Bool:=if wy=1∨wy=2 then true else if wy=4 then !ng else(ng&&decide (wy=5))
set_option maxHeartbeats 1600000 in
theorem outward_any (n wy fam R D L G:Int) (gr ng:Bool) (hw:1≤wy∧wy≤5) (w:World):Calls Tryz.prog 193 #[ykV n wy fam R D L G gr,.bool ng] w fun z w'=>z= .returned (.bool (outB wy ng))∧Below w.heap.size w w':=by
 have h5:wy=1∨wy=2∨wy=3∨wy=4∨wy=5:=by omega
 have b0:=below_alloc w (.cells (ykL n wy fam R D L G gr).toArray 93);clear hw
 rcases h5 with rfl|rfl|rfl|rfl|rfl
 all_goals
  cases ng
  all_goals
   go_enter Tryz.func193,Tryz.ntmps193
   go_wp2
   go_ret
   exact⟨rfl,b0⟩
set_option maxHeartbeats 3200000 in
theorem dencode_W (n wy fam R D L G c p fl er:Int) (gr ng:Bool) (ao:Option Addr) (la ca:Nat) (st:ByteArray) (w:World)
  (HE: ∀w1,Below w.heap.size w w1→Calls Tryz.prog 44 #[yi n,yvV c ng (.slice ao la ca) p] w1 fun z w'=>z= .returned (.tuple #[.string st,yi er])∧Below w1.heap.size w1 w'):
  Calls Tryz.prog 87 #[ykV n wy fam R D L G gr,yvV c ng (.slice ao la ca) p,yi fl] w fun z w'=>z= .returned (if er=0 then .tuple #[.string st,yi fl,yi 0] else .tuple #[.string ⟨#[]⟩,yi 0,yi er])∧Below w.heap.size w w':=by
 replace HE:Hid _:=HE;have ad:=below_alloc w (.cells (ykL n wy fam R D L G gr).toArray 93);have av:=below_alloc (w.alloc (.cells (ykL n wy fam R D L G gr).toArray 93)) (.cells (yvL c ng (.slice ao la ca) p).toArray 73);have d0:=(locE_new w (ykL n wy fam R D L G gr) 93).later av;have v0:=locE_new (w.alloc (.cells (ykL n wy fam R D L G gr).toArray 93)) (yvL c ng (.slice ao la ca) p) 73;rw[World.size_alloc] at v0;have b0:=below_trans ad av;clear ad av
 by_cases he:er=0
 ·rw[if_pos he]
  subst he
  go_enter Tryz.func87,Tryz.ntmps87
  go_upto_region 1 with fail
  generalize(w.alloc (.cells (ykL n wy fam R D L G gr).toArray 93)).alloc (.cells (yvL c ng (.slice ao la ca) p).toArray 73)=W0 at d0 v0 b0⊢;have y0:=d0.cell 0 rfl;obtain⟨x0,x1,x2,x3⟩:=v0.cs4
  go_wp2_with fail
  refine(HE.out _ b0).mono ?_;rintro z w1 ⟨rfl,b1⟩;have b01:=below_trans b0 b1
  go_wp2
  go_ret3
  exact⟨rfl,b01⟩
 ·rw[if_neg he]
  have hef:(er==0)=false:=by simpa using he
  go_enter Tryz.func87,Tryz.ntmps87
  go_upto_region 1 with fail
  generalize(w.alloc (.cells (ykL n wy fam R D L G gr).toArray 93)).alloc (.cells (yvL c ng (.slice ao la ca) p).toArray 73)=W0 at d0 v0 b0⊢;have y0:=d0.cell 0 rfl;obtain⟨x0,x1,x2,x3⟩:=v0.cs4
  go_wp2_with fail
  refine(HE.out _ b0).mono ?_;rintro z w1 ⟨rfl,b1⟩;have b01:=below_trans b0 b1;clear he
  go_wp2
  go_ret3
  exact⟨rfl,b01⟩
end Go.Proofs.YtnhackdjplppjaaGreatDoor

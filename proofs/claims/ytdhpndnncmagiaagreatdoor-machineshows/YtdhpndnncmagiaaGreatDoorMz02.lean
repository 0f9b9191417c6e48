/-
  Texts laid together: Mc3, Mc4, Mc5, Mc6, Mc7, Mc8, Mc9.
-/
import Derived.Test.YtdhpndnncmagiaaGreatDoorMz01
set_option maxRecDepth 100000
set_option maxHeartbeats 3200000
namespace Go.Proofs.YtdhpndnncmagiaaGreatDoor
open _root_.Go.Proofs.Tryz
open Go.RowKit Go.ChangeMaps Go.MapKept
theorem put_new2 {P:Program}{t k e:TypeId}(ht:P.underlying t=some (.map k e))(hk:P.underlying k=some (.int .i64)){w W:World}{r:Nat}{es:Array MapEntry}{c:Nat}(hb:W.heap[r]? =some (.map es c))(hr:w.heap.size≤r)(bel:yB w W)(x:Int)(v:Value)(hno:Instr.findNow (.int .i64) (yi x) es.toList 0=some none):
  ∃W',(Instr.mapUpdate t (.map (some r)) (yi x) v).run P W= .ok () W'∧W'.heap[r]? =some (.map (es.push ⟨yi x,v,c⟩) (c+1))∧yB w W'∧W'.heap.size=W.heap.size∧ ∀b ty vs,au W b ty vs→au W' b ty vs:=by
 have hkey:IsKey (.int .i64) (yi x):=rfl;refine⟨setBlock W r (.map (es.push ⟨yi x,v,c⟩) (c+1)), ?_, ?_, ?_, ?_, ?_⟩
 ·simp[Instr.mapUpdate,run_underlying ht,MapKept.run_getObj_map hb,run_checkKey hk hkey,run_findKey hk hno,MapKept.run_setObj_map _ hb,Result.andThen,setBlock]
 ·exact(MapKept.heap_set hb).1
 ·refine⟨bel.os,bel.tape,bel.output, ?_,fun i hi=> ?_⟩
  ·show w.heap.size≤(W.heap.setIfInBounds r _).size
   rw[Array.size_setIfInBounds];exact bel.size
  ·show(W.heap.setIfInBounds r _)[i]? =_
   rw[(MapKept.heap_set (o':=Obj.map (es.push ⟨yi x,v,c⟩) (c+1)) hb).2 i (by omega)];exact bel.block i hi
 ·show(W.heap.setIfInBounds r _).size=_
  rw[Array.size_setIfInBounds]
 ·intro b ty vs hl
  have hne:b≠r:=by
   intro e;subst e;unfold au at hl;rw[hl] at hb
   cases hb
  show(W.heap.setIfInBounds r _)[b]? =_
  rw[(MapKept.heap_set (o':=Obj.map (es.push ⟨yi x,v,c⟩) (c+1)) hb).2 b hne];exact hl
def opE (a b c d:Nat):Array MapEntry:= #[⟨yi 1,.agg #[yi 0,.func (.func 93) #[] #[]],0⟩,⟨yi 2,.agg #[yi 0,.func (.func 95) #[] #[]],1⟩,
 ⟨yi 3,.agg #[yi 2,.func (.func 165) #[] #[.pointer (some ⟨a,0,none⟩)]],2⟩,⟨yi 4,.agg #[yi 2,.func (.func 165) #[] #[.pointer (some ⟨b,0,none⟩)]],3⟩,
 ⟨yi 5,.agg #[yi 2,.func (.func 165) #[] #[.pointer (some ⟨c,0,none⟩)]],4⟩,⟨yi 6,.agg #[yi 2,.func (.func 165) #[] #[.pointer (some ⟨d,0,none⟩)]],5⟩,
 ⟨yi 7,.agg #[yi 1,.func (.func 100) #[] #[]],6⟩,⟨yi 8,.agg #[yi 3,.func (.func 104) #[] #[]],7⟩,⟨yi 9,.agg #[yi 1,.func (.func 107) #[] #[]],8⟩,
 ⟨yi 10,.agg #[yi 2,.func (.func 110) #[] #[]],9⟩,⟨yi 11,.agg #[yi 1,.func (.func 112) #[] #[]],10⟩,⟨yi 12,.agg #[yi 1,.func (.func 113) #[] #[]],11⟩,
 ⟨yi 13,.agg #[yi 0,.func (.func 115) #[] #[]],12⟩,⟨yi 16,.agg #[yi 0,.func (.func 117) #[] #[]],13⟩,⟨yi 14,.agg #[yi 0,.func (.func 118) #[] #[]],14⟩,
 ⟨yi 15,.agg #[yi 0,.func (.func 120) #[] #[]],15⟩]
theorem ofTwo_any (k:Nat)(w:World):yC 96 #[.func (.func k) #[] #[]] w fun z w'=>z= .returned (.func (.func 165) #[] #[.pointer (some ⟨w.heap.size,0,none⟩)])∧w'=w.alloc (.cells #[.func (.func k) #[] #[]] 41):=by
 go_enter func96,ntmps96
 go_wp2
 go_ret
 exact⟨rfl,rfl⟩
def OpsW (r a b c d:Nat)(w:World):Prop:=w.heap[r]? =some (.map (opE a b c d) 16)∧au w a 41 [.func (.func 15) #[] #[]]∧au w b 41 [.func (.func 97) #[] #[]]∧au w c 41 [.func (.func 98) #[] #[]]∧au w d 41 [.func (.func 99) #[] #[]]
theorem operations_any (w:World):yC 57 #[] w fun z w'=> ∃a b c d,z= .returned (.map (some w.heap.size))∧OpsW w.heap.size a b c d w'∧yB w w':=by
 have ht:=underlying127;have hk:=underlying3;have hb0:(w.alloc (.map #[] 0)).heap[w.heap.size]? =some (.map #[] 0):=heap_alloc_new _ _;have b0:=af w (.map #[] 0);have e0:=run_makeMap (P:=Tryz.prog) 127 w;obtain⟨W1,e1,hb1,b1,-,lc1⟩:=put_new2 ht hk hb0 (Nat.le_refl _) b0 1 (.agg #[yi 0,.func (.func 93) #[] #[]]) rfl;obtain⟨W2,e2,hb2,b2,-,lc2⟩:=put_new2 ht hk hb1 (Nat.le_refl _) b1 2 (.agg #[yi 0,.func (.func 95) #[] #[]]) rfl;obtain⟨XV2,hX2⟩: ∃X,X=W2.alloc (.cells #[.func (.func 15) #[] #[]] 41):=⟨_,rfl⟩;have hx2:=(heap_alloc_old W2 (.cells #[.func (.func 15) #[] #[]] 41) (Array.getElem?_eq_some_iff.1 hb2).1).trans hb2;rw[←hX2] at hx2;have bx2:yB w XV2:=by rw[hX2];exact b2.alloc b2.size _
 have lx2:au XV2 W2.heap.size 41 [.func (.func 15) #[] #[]]:=by rw[hX2];exact ah _ _ _
 obtain⟨W3,e3,hb3,b3,-,lc3⟩:=put_new2 ht hk hx2 (Nat.le_refl _) bx2 3 (.agg #[yi 2,.func (.func 165) #[] #[.pointer (some ⟨W2.heap.size,0,none⟩)]]) rfl;have lx2w:=lc3 _ _ _ lx2;obtain⟨XV3,hX3⟩: ∃X,X=W3.alloc (.cells #[.func (.func 97) #[] #[]] 41):=⟨_,rfl⟩;have hx3:=(heap_alloc_old W3 (.cells #[.func (.func 97) #[] #[]] 41) (Array.getElem?_eq_some_iff.1 hb3).1).trans hb3;rw[←hX3] at hx3;have bx3:yB w XV3:=by rw[hX3];exact b3.alloc b3.size _
 have lx3:au XV3 W3.heap.size 41 [.func (.func 97) #[] #[]]:=by rw[hX3];exact ah _ _ _
 have lx2wx:=lx2w.l (af _ (.cells #[.func (.func 97) #[] #[]] 41));rw[←hX3] at lx2wx;obtain⟨W4,e4,hb4,b4,-,lc4⟩:=put_new2 ht hk hx3 (Nat.le_refl _) bx3 4 (.agg #[yi 2,.func (.func 165) #[] #[.pointer (some ⟨W3.heap.size,0,none⟩)]]) rfl;have lx2wxw:=lc4 _ _ _ lx2wx;have lx3w:=lc4 _ _ _ lx3;obtain⟨XV4,hX4⟩: ∃X,X=W4.alloc (.cells #[.func (.func 98) #[] #[]] 41):=⟨_,rfl⟩;have hx4:=(heap_alloc_old W4 (.cells #[.func (.func 98) #[] #[]] 41) (Array.getElem?_eq_some_iff.1 hb4).1).trans hb4;rw[←hX4] at hx4;have bx4:yB w XV4:=by rw[hX4];exact b4.alloc b4.size _
 have lx4:au XV4 W4.heap.size 41 [.func (.func 98) #[] #[]]:=by rw[hX4];exact ah _ _ _
 have lx2wxwx:=lx2wxw.l (af _ (.cells #[.func (.func 98) #[] #[]] 41));rw[←hX4] at lx2wxwx;have lx3wx:=lx3w.l (af _ (.cells #[.func (.func 98) #[] #[]] 41));rw[←hX4] at lx3wx;obtain⟨W5,e5,hb5,b5,-,lc5⟩:=put_new2 ht hk hx4 (Nat.le_refl _) bx4 5 (.agg #[yi 2,.func (.func 165) #[] #[.pointer (some ⟨W4.heap.size,0,none⟩)]]) rfl;have lx2wxwxw:=lc5 _ _ _ lx2wxwx;have lx3wxw:=lc5 _ _ _ lx3wx;have lx4w:=lc5 _ _ _ lx4;obtain⟨XV5,hX5⟩: ∃X,X=W5.alloc (.cells #[.func (.func 99) #[] #[]] 41):=⟨_,rfl⟩;have hx5:=(heap_alloc_old W5 (.cells #[.func (.func 99) #[] #[]] 41) (Array.getElem?_eq_some_iff.1 hb5).1).trans hb5;rw[←hX5] at hx5;have bx5:yB w XV5:=by rw[hX5];exact b5.alloc b5.size _
 have lx5:au XV5 W5.heap.size 41 [.func (.func 99) #[] #[]]:=by rw[hX5];exact ah _ _ _
 have lx2wxwxwx:=lx2wxwxw.l (af _ (.cells #[.func (.func 99) #[] #[]] 41));rw[←hX5] at lx2wxwxwx;have lx3wxwx:=lx3wxw.l (af _ (.cells #[.func (.func 99) #[] #[]] 41));rw[←hX5] at lx3wxwx;have lx4wx:=lx4w.l (af _ (.cells #[.func (.func 99) #[] #[]] 41));rw[←hX5] at lx4wx;obtain⟨W6,e6,hb6,b6,-,lc6⟩:=put_new2 ht hk hx5 (Nat.le_refl _) bx5 6 (.agg #[yi 2,.func (.func 165) #[] #[.pointer (some ⟨W5.heap.size,0,none⟩)]]) rfl;have lx2wxwxwxw:=lc6 _ _ _ lx2wxwxwx;have lx3wxwxw:=lc6 _ _ _ lx3wxwx;have lx4wxw:=lc6 _ _ _ lx4wx;have lx5w:=lc6 _ _ _ lx5;obtain⟨W7,e7,hb7,b7,-,lc7⟩:=put_new2 ht hk hb6 (Nat.le_refl _) b6 7 (.agg #[yi 1,.func (.func 100) #[] #[]]) rfl;have lx2wxwxwxww:=lc7 _ _ _ lx2wxwxwxw;have lx3wxwxww:=lc7 _ _ _ lx3wxwxw;have lx4wxww:=lc7 _ _ _ lx4wxw;have lx5ww:=lc7 _ _ _ lx5w;obtain⟨W8,e8,hb8,b8,-,lc8⟩:=put_new2 ht hk hb7 (Nat.le_refl _) b7 8 (.agg #[yi 3,.func (.func 104) #[] #[]]) rfl;have lx2wxwxwxwww:=lc8 _ _ _ lx2wxwxwxww;have lx3wxwxwww:=lc8 _ _ _ lx3wxwxww;have lx4wxwww:=lc8 _ _ _ lx4wxww;have lx5www:=lc8 _ _ _ lx5ww;obtain⟨W9,e9,hb9,b9,-,lc9⟩:=put_new2 ht hk hb8 (Nat.le_refl _) b8 9 (.agg #[yi 1,.func (.func 107) #[] #[]]) rfl;have lx2wxwxwxwwww:=lc9 _ _ _ lx2wxwxwxwww;have lx3wxwxwwww:=lc9 _ _ _ lx3wxwxwww;have lx4wxwwww:=lc9 _ _ _ lx4wxwww;have lx5wwww:=lc9 _ _ _ lx5www;obtain⟨W10,e10,hb10,b10,-,lc10⟩:=put_new2 ht hk hb9 (Nat.le_refl _) b9 10 (.agg #[yi 2,.func (.func 110) #[] #[]]) rfl;have lx2wxwxwxwwwww:=lc10 _ _ _ lx2wxwxwxwwww;have lx3wxwxwwwww:=lc10 _ _ _ lx3wxwxwwww;have lx4wxwwwww:=lc10 _ _ _ lx4wxwwww;have lx5wwwww:=lc10 _ _ _ lx5wwww;obtain⟨W11,e11,hb11,b11,-,lc11⟩:=put_new2 ht hk hb10 (Nat.le_refl _) b10 11 (.agg #[yi 1,.func (.func 112) #[] #[]]) rfl;have lx2wxwxwxwwwwww:=lc11 _ _ _ lx2wxwxwxwwwww;have lx3wxwxwwwwww:=lc11 _ _ _ lx3wxwxwwwww;have lx4wxwwwwww:=lc11 _ _ _ lx4wxwwwww;have lx5wwwwww:=lc11 _ _ _ lx5wwwww;obtain⟨W12,e12,hb12,b12,-,lc12⟩:=put_new2 ht hk hb11 (Nat.le_refl _) b11 12 (.agg #[yi 1,.func (.func 113) #[] #[]]) rfl;have lx2wxwxwxwwwwwww:=lc12 _ _ _ lx2wxwxwxwwwwww;have lx3wxwxwwwwwww:=lc12 _ _ _ lx3wxwxwwwwww;have lx4wxwwwwwww:=lc12 _ _ _ lx4wxwwwwww;have lx5wwwwwww:=lc12 _ _ _ lx5wwwwww;obtain⟨W13,e13,hb13,b13,-,lc13⟩:=put_new2 ht hk hb12 (Nat.le_refl _) b12 13 (.agg #[yi 0,.func (.func 115) #[] #[]]) rfl;have lx2wxwxwxwwwwwwww:=lc13 _ _ _ lx2wxwxwxwwwwwww;have lx3wxwxwwwwwwww:=lc13 _ _ _ lx3wxwxwwwwwww;have lx4wxwwwwwwww:=lc13 _ _ _ lx4wxwwwwwww;have lx5wwwwwwww:=lc13 _ _ _ lx5wwwwwww;obtain⟨W14,e14,hb14,b14,-,lc14⟩:=put_new2 ht hk hb13 (Nat.le_refl _) b13 16 (.agg #[yi 0,.func (.func 117) #[] #[]]) rfl;have lx2wxwxwxwwwwwwwww:=lc14 _ _ _ lx2wxwxwxwwwwwwww;have lx3wxwxwwwwwwwww:=lc14 _ _ _ lx3wxwxwwwwwwww;have lx4wxwwwwwwwww:=lc14 _ _ _ lx4wxwwwwwwww;have lx5wwwwwwwww:=lc14 _ _ _ lx5wwwwwwww;obtain⟨W15,e15,hb15,b15,-,lc15⟩:=put_new2 ht hk hb14 (Nat.le_refl _) b14 14 (.agg #[yi 0,.func (.func 118) #[] #[]]) rfl;have lx2wxwxwxwwwwwwwwww:=lc15 _ _ _ lx2wxwxwxwwwwwwwww;have lx3wxwxwwwwwwwwww:=lc15 _ _ _ lx3wxwxwwwwwwwww;have lx4wxwwwwwwwwww:=lc15 _ _ _ lx4wxwwwwwwwww;have lx5wwwwwwwwww:=lc15 _ _ _ lx5wwwwwwwww;obtain⟨W16,e16,hb16,b16,-,lc16⟩:=put_new2 ht hk hb15 (Nat.le_refl _) b15 15 (.agg #[yi 0,.func (.func 120) #[] #[]]) rfl;have lx2wxwxwxwwwwwwwwwww:=lc16 _ _ _ lx2wxwxwxwwwwwwwwww;have lx3wxwxwwwwwwwwwww:=lc16 _ _ _ lx3wxwxwwwwwwwwww;have lx4wxwwwwwwwwwww:=lc16 _ _ _ lx4wxwwwwwwwwww;have lx5wwwwwwwwwww:=lc16 _ _ _ lx5wwwwwwwwww;have HO:Hid (OpsW w.heap.size W2.heap.size W3.heap.size W4.heap.size W5.heap.size W16):=⟨hb16,lx2wxwxwxwwwwwwwwwww,lx3wxwxwwwwwwwwwww,lx4wxwwwwwwwwwww,lx5wwwwwwwwwww⟩;clear lx3 lx4 lx5 lx2 lx2w lx4w lx3w lx5w lx5ww lx2wx lx3wx lx4wx lx5www lx2wxw lx4wxw lx3wxw lx5wwww lx4wxww lx3wxwx lx2wxwx lx3wxwxw lx4wxwww lx5wwwww lx2wxwxw lx3wxwxww lx2wxwxwx lx4wxwwww lx5wwwwww lx4wxwwwww lx5wwwwwww lx2wxwxwxw lx3wxwxwww lx3wxwxwwww lx4wxwwwwww lx2wxwxwxww lx5wwwwwwww lx2wxwxwxwww lx4wxwwwwwww lx5wwwwwwwww lx3wxwxwwwww lx3wxwxwwwwww lx4wxwwwwwwww lx5wwwwwwwwww lx2wxwxwxwwww lx2wxwxwxwwwww lx3wxwxwwwwwww lx4wxwwwwwwwww lx5wwwwwwwwwww lx3wxwxwwwwwwww lx2wxwxwxwwwwww lx4wxwwwwwwwwww lx4wxwwwwwwwwwww lx2wxwxwxwwwwwww lx3wxwxwwwwwwwww lx3wxwxwwwwwwwwww lx2wxwxwxwwwwwwww lx3wxwxwwwwwwwwwww lx2wxwxwxwwwwwwwww lx2wxwxwxwwwwwwwwww lx2wxwxwxwwwwwwwwwww hb0 hb1 hb2 hb3 hb4 hb5 hb6 hb7 hb8 hb9 hb10 hb11 hb12 hb13 hb14 hb15 hb16 lc1 lc2 lc3 lc4 lc5 lc6 lc7 lc8 lc9 lc10 lc11 lc12 lc13 lc14 lc15 lc16 b0 b1 b2 b3 b4 b5 b6 b7 b8 b9 b10 b11 b12 b13 b14 b15 hx2 hx3 hx4 hx5 bx2 bx3 bx4 bx5 ht hk;subst hX2 hX3 hX4 hX5
 go_enter func57,ntmps57
 go_wp2_with fail
 refine Calls.mono (ofTwo_any 15 W2) ?_;rintro zz ww ⟨rfl,rfl⟩
 go_wp2_with fail
 refine Calls.mono (ofTwo_any 97 W3) ?_;rintro zz ww ⟨rfl,rfl⟩
 go_wp2_with fail
 refine Calls.mono (ofTwo_any 98 W4) ?_;rintro zz ww ⟨rfl,rfl⟩
 go_wp2_with fail
 refine Calls.mono (ofTwo_any 99 W5) ?_;rintro zz ww ⟨rfl,rfl⟩
 go_wp2
 go_ret
 exact⟨_,_,_,_,rfl,HO.out,b16⟩
open Go.RowKit
def badF (n:Int):Bool:=decide (n<0∨31<n)
theorem wrongWay_any (n:Int)(w:World):yC 17 #[yi n] w (yR w (.bool (!iC n))):=by
 by_cases h:n<1
 ·have e:iC n=false:=decide_eq_false (by omega)
  rw[e]
  go_enter func17,ntmps17
  go_wp2
  go_ret
  exact⟨by simp,Below.refl _ _⟩
 ·by_cases h2:5<n
  ·have e:iC n=false:=decide_eq_false (by omega)
   rw[e]
   go_enter func17,ntmps17
   go_wp2
   go_ret
   exact⟨by simp,Below.refl _ _⟩
  ·have e:iC n=true:=decide_eq_true (by omega)
   rw[e]
   go_enter func17,ntmps17
   go_wp2
   go_ret
   exact⟨by simp,Below.refl _ _⟩
theorem wrongFlags_any (n:Int)(w:World):yC 18 #[yi n] w (yR w (.bool (badF n))):=by
 by_cases h:n<0
 ·have e:badF n=true:=decide_eq_true (by omega)
  rw[e]
  go_enter func18,ntmps18
  go_wp2
  go_ret
  exact⟨by simp,Below.refl _ _⟩
 ·by_cases h2:31<n
  ·have e:badF n=true:=decide_eq_true (by omega)
   rw[e]
   go_enter func18,ntmps18
   go_wp2
   go_ret
   exact⟨by simp,Below.refl _ _⟩
  ·have e:badF n=false:=decide_eq_false (by omega)
   rw[e]
   go_enter func18,ntmps18
   go_wp2
   go_ret
   exact⟨by simp,Below.refl _ _⟩
def offS (sz:Int)(s:ByteArray):Bool:=decide ((s.size:Int)≠sz)
theorem check1_any (sz:Int)(s:ByteArray)(q:Nat)(w:World)(hl:au w q 3 [yi sz]):yC 20 #[.string s,.pointer (some ⟨q,0,none⟩)] w (yR w (.bool (offS sz s))):=by
 unfold offS;have c0:=hl.c 0 rfl
 go_enter func20,ntmps20
 go_wp2
 go_ret
 refine⟨?_,Below.refl _ _⟩;simp[bne,BEq.beq]
def chkM (F W fl tr:Int)(l:List ByteArray):Int:=
 if dK F=0∨iC W=false then 6 else if badF fl=true∨badF tr=true then 3 else if 16<l.length then 2 else if l.any (offS (szN F.toNat:Int))=true then 1 else 0
theorem mcheck_any (F W fl tr:Int)(va:Value)(l:List ByteArray)(w:World)(ha:RdS w va l):
  yC 7 #[.agg #[yi F,yi W,yi fl,yi tr,va]] w (yR w (yi (chkM F W fl tr l))):=by
 obtain⟨so,sc,rfl⟩:=ha.shape;unfold chkM
 by_cases hF:dK F=0
 ·rw[if_pos (.inl hF)]
  exact check_kind F W fl tr so _ sc w (fun w1 _=>VO F w1 hF)
 obtain⟨k1,k2,k3⟩:=fF hF;have HS:yH w 16 #[yi F] (.tuple #[yi ((szN F.toNat:Nat):Int),yi 0]):=fun w1 _=>by
  have:=ZH F.toNat ⟨k1,k2⟩ w1;rw[k3] at this;exact this
 have HW:=fun w1 (_:yB w w1)=>wrongWay_any W w1
 by_cases hW:iC W=false
 ·rw[if_pos (.inr hW)]
  rw[hW] at HW;exact check_way F W fl tr _ so _ sc w HS HW
 rw[if_neg (fun c=>c.elim hF hW)]
 have hW':iC W=true:=by cases h:iC W<;>simp_all
 rw[hW'] at HW;have HFl:=fun w1 (_:yB w w1)=>wrongFlags_any fl w1
 have HT:=fun w1 (_:yB w w1)=>wrongFlags_any tr w1
 cases hf:badF fl
 case true=>
  rw[if_pos (.inl rfl)];rw[hf] at HFl;exact check_flags F W fl tr _ so _ sc w HS HW HFl
 rw[hf] at HFl
 cases ht:badF tr
 case true=>
  rw[if_pos (.inr rfl)];rw[ht] at HT;exact check_traps F W fl tr _ so _ sc w HS HW HFl HT
 rw[ht] at HT;rw[if_neg (by simp)]
 by_cases hL:16<l.length
 ·rw[if_pos hL]
  exact check_many F W fl tr _ so _ sc w (by omega) HS HW HFl HT
 rw[if_neg hL];have HC: ∀q w1,yB w w1→au w1 q 3 [yi ((szN F.toNat:Nat):Int)]→yC 19 #[.slice so l.length sc,.func (.func 20) #[] #[.pointer (some ⟨q,0,none⟩)]] w1 (yR w1 (.bool (l.any (offS ((szN F.toNat:Nat):Int))))):=fun q w1 b1 hl=>
  containsS_any q _ _ w1 (fun w2 b2=>indexS_any q _ _ l w2 (by omega) ((ha.l b1).l b2) (fun s w3 b3=>check1_any _ s q w3 ((hl.l b2).l b3)))
 cases ho:l.any (offS ((szN F.toNat:Nat):Int))
 ·rw[if_neg (by simp)]
  rw[ho] at HC;exact check_ok F W fl tr _ so _ sc w (by omega) HS HW HFl HT HC
 ·rw[if_pos rfl]
  rw[ho] at HC;exact check_form F W fl tr _ so _ sc w (by omega) HS HW HFl HT HC
theorem mcopied_any (F W fl tr:Int)(va:Value)(l:List ByteArray)(w:World)(ha:RdS w va l)(hl:l.length≤4096):
  yC 28 #[.agg #[yi F,yi W,yi fl,yi tr,va]] w (CopR F W fl tr l w):=by
 obtain⟨so,sc,rfl⟩:=ha.shape;exact copied_W F W fl tr so _ sc l w (fun w1 b1=>clone_any w.heap.size _ l w1 (ha.l b1) hl b1.size)
theorem state_kind (F W fl tr sz f1 f2 f3 f4 f5 f6 f8:Int)(gr:Bool)(so:Option Addr)(L sc:Nat)(w:World)
  (HF:yH w 21 #[yi F] (.tuple #[yhV sz f1 f2 f3 f4 f5 f6 gr f8,.bool false])):
  yC 8 #[.agg #[yi F,yi W,yi fl,yi tr,.slice so L sc]] w (yR w (yi 6)):=by
 replace HF:Hid _:=HF;obtain⟨W3,hW4,q1,b2⟩:=cA w [yi F,yi W,yi fl,yi tr,.slice so L sc] 24;replace hW4:Hid _:=hW4
 go_enter func8,ntmps8
 go_upto_region 1 with fail
 rw[hW4.out];clear hW4;have c5:=q1.c 0 rfl
 go_wp2_with fail
 refine(HF.out _ b2).mono ?_;rintro zz w6 ⟨rfl,bb7⟩;have b8:=aa b2 bb7;clear q1 b2 bb7 HF c5;obtain⟨W11,hW10,q12,al9⟩:=cA w6 (yhL sz f1 f2 f3 f4 f5 f6 gr f8) 51;replace hW10:Hid _:=hW10;have hl13:w.heap.size≤w6.heap.size:=b8.size;have b14:=aa b8 al9;clear b8 al9 q12
 go_upto_region 2 with fail
 rw[hW10.out];clear hW10
 go_wp2
 go_ret
 exact⟨by simp,b14⟩
theorem state_way (F W fl tr sz f1 f2 f3 f4 f5 f6 f8:Int)(gr:Bool)(so:Option Addr)(L sc:Nat)(w:World)
  (HF:yH w 21 #[yi F] (.tuple #[yhV sz f1 f2 f3 f4 f5 f6 gr f8,.bool true]))
  (HW: ∀w1,yC 22 #[yi W] w1 fun z w'=>z= .returned (.bool false)∧w'=w1):
  yC 8 #[.agg #[yi F,yi W,yi fl,yi tr,.slice so L sc]] w (yR w (yi 6)):=by
 replace HF:Hid _:=HF;replace HW:Hid _:=HW;obtain⟨W3,hW4,q1,b2⟩:=cA w [yi F,yi W,yi fl,yi tr,.slice so L sc] 24;replace hW4:Hid _:=hW4
 go_enter func8,ntmps8
 go_upto_region 1 with fail
 rw[hW4.out];clear hW4;have c5:=q1.c 0 rfl
 go_wp2_with fail
 refine(HF.out _ b2).mono ?_;rintro zz w6 ⟨rfl,bb7⟩;have q8:=q1.l bb7;have b9:=aa b2 bb7;clear q1 b2 bb7 HF c5;obtain⟨W12,hW11,q13,al10⟩:=cA w6 (yhL sz f1 f2 f3 f4 f5 f6 gr f8) 51;replace hW11:Hid _:=hW11;have hl14:w.heap.size≤w6.heap.size:=b9.size;have q15:=q8.l al10;have b16:=aa b9 al10;clear q8 b9 al10 q13
 go_upto_region 2 with fail
 rw[hW11.out];clear hW11;have c17:=q15.c 1 rfl
 go_wp2_with fail
 refine(HW.out _).mono ?_;rintro zz w18 ⟨rfl,rfl⟩;clear c17 HW
 go_wp2
 go_ret
 exact⟨by simp,b16⟩
theorem state_f1 (F W fl tr sz f1 f2 f3 f4 f5 f6 f8:Int)(gr:Bool)(so:Option Addr)(L sc:Nat)(w:World)(h1:fl<0)
  (HF:yH w 21 #[yi F] (.tuple #[yhV sz f1 f2 f3 f4 f5 f6 gr f8,.bool true]))
  (HW: ∀w1,yC 22 #[yi W] w1 fun z w'=>z= .returned (.bool true)∧w'=w1):
  yC 8 #[.agg #[yi F,yi W,yi fl,yi tr,.slice so L sc]] w (yR w (yi 3)):=by
 replace HF:Hid _:=HF;replace HW:Hid _:=HW;obtain⟨W3,hW4,q1,b2⟩:=cA w [yi F,yi W,yi fl,yi tr,.slice so L sc] 24;replace hW4:Hid _:=hW4
 go_enter func8,ntmps8
 go_upto_region 1 with fail
 rw[hW4.out];clear hW4;have c5:=q1.c 0 rfl
 go_wp2_with fail
 refine(HF.out _ b2).mono ?_;rintro zz w6 ⟨rfl,bb7⟩;have q8:=q1.l bb7;have b9:=aa b2 bb7;clear q1 b2 bb7 HF c5;obtain⟨W12,hW11,q13,al10⟩:=cA w6 (yhL sz f1 f2 f3 f4 f5 f6 gr f8) 51;replace hW11:Hid _:=hW11;have hl14:w.heap.size≤w6.heap.size:=b9.size;have q15:=q8.l al10;have b16:=aa b9 al10;clear q8 b9 al10 q13
 go_upto_region 2 with fail
 rw[hW11.out];clear hW11;have c17:=q15.c 1 rfl
 go_wp2_with fail
 refine(HW.out _).mono ?_;rintro zz w18 ⟨rfl,rfl⟩;clear c17 HW;have c20:=q15.c 2 rfl
 go_wp2
 go_ret
 exact⟨by simp,b16⟩
theorem state_f2 (F W fl tr sz f1 f2 f3 f4 f5 f6 f8:Int)(gr:Bool)(so:Option Addr)(L sc:Nat)(w:World)(h1: ¬fl<0)(h2:31<fl)
  (HF:yH w 21 #[yi F] (.tuple #[yhV sz f1 f2 f3 f4 f5 f6 gr f8,.bool true]))
  (HW: ∀w1,yC 22 #[yi W] w1 fun z w'=>z= .returned (.bool true)∧w'=w1):
  yC 8 #[.agg #[yi F,yi W,yi fl,yi tr,.slice so L sc]] w (yR w (yi 3)):=by
 replace HF:Hid _:=HF;replace HW:Hid _:=HW;obtain⟨W3,hW4,q1,b2⟩:=cA w [yi F,yi W,yi fl,yi tr,.slice so L sc] 24;replace hW4:Hid _:=hW4
 go_enter func8,ntmps8
 go_upto_region 1 with fail
 rw[hW4.out];clear hW4;have c5:=q1.c 0 rfl
 go_wp2_with fail
 refine(HF.out _ b2).mono ?_;rintro zz w6 ⟨rfl,bb7⟩;have q8:=q1.l bb7;have b9:=aa b2 bb7;clear q1 b2 bb7 HF c5;obtain⟨W12,hW11,q13,al10⟩:=cA w6 (yhL sz f1 f2 f3 f4 f5 f6 gr f8) 51;replace hW11:Hid _:=hW11;have hl14:w.heap.size≤w6.heap.size:=b9.size;have q15:=q8.l al10;have b16:=aa b9 al10;clear q8 b9 al10 q13
 go_upto_region 2 with fail
 rw[hW11.out];clear hW11;have c17:=q15.c 1 rfl
 go_wp2_with fail
 refine(HW.out _).mono ?_;rintro zz w18 ⟨rfl,rfl⟩;clear c17 HW;have c20:=q15.c 2 rfl
 go_wp2
 go_ret
 exact⟨by simp,b16⟩
theorem state_f3 (F W fl tr sz f1 f2 f3 f4 f5 f6 f8:Int)(gr:Bool)(so:Option Addr)(L sc:Nat)(w:World)(h1: ¬fl<0)(h2: ¬31<fl)(h3:tr<0)
  (HF:yH w 21 #[yi F] (.tuple #[yhV sz f1 f2 f3 f4 f5 f6 gr f8,.bool true]))
  (HW: ∀w1,yC 22 #[yi W] w1 fun z w'=>z= .returned (.bool true)∧w'=w1):
  yC 8 #[.agg #[yi F,yi W,yi fl,yi tr,.slice so L sc]] w (yR w (yi 3)):=by
 replace HF:Hid _:=HF;replace HW:Hid _:=HW;obtain⟨W3,hW4,q1,b2⟩:=cA w [yi F,yi W,yi fl,yi tr,.slice so L sc] 24;replace hW4:Hid _:=hW4
 go_enter func8,ntmps8
 go_upto_region 1 with fail
 rw[hW4.out];clear hW4;have c5:=q1.c 0 rfl
 go_wp2_with fail
 refine(HF.out _ b2).mono ?_;rintro zz w6 ⟨rfl,bb7⟩;have q8:=q1.l bb7;have b9:=aa b2 bb7;clear q1 b2 bb7 HF c5;obtain⟨W12,hW11,q13,al10⟩:=cA w6 (yhL sz f1 f2 f3 f4 f5 f6 gr f8) 51;replace hW11:Hid _:=hW11;have hl14:w.heap.size≤w6.heap.size:=b9.size;have q15:=q8.l al10;have b16:=aa b9 al10;clear q8 b9 al10 q13
 go_upto_region 2 with fail
 rw[hW11.out];clear hW11;have c17:=q15.c 1 rfl
 go_wp2_with fail
 refine(HW.out _).mono ?_;rintro zz w18 ⟨rfl,rfl⟩;clear c17 HW;have c20:=q15.c 2 rfl;have c21:=q15.c 3 rfl
 go_wp2
 go_ret
 exact⟨by simp,b16⟩
theorem state_f4 (F W fl tr sz f1 f2 f3 f4 f5 f6 f8:Int)(gr:Bool)(so:Option Addr)(L sc:Nat)(w:World)(h1: ¬fl<0)(h2: ¬31<fl)(h3: ¬tr<0)(h4:31<tr)
  (HF:yH w 21 #[yi F] (.tuple #[yhV sz f1 f2 f3 f4 f5 f6 gr f8,.bool true]))
  (HW: ∀w1,yC 22 #[yi W] w1 fun z w'=>z= .returned (.bool true)∧w'=w1):
  yC 8 #[.agg #[yi F,yi W,yi fl,yi tr,.slice so L sc]] w (yR w (yi 3)):=by
 replace HF:Hid _:=HF;replace HW:Hid _:=HW;obtain⟨W3,hW4,q1,b2⟩:=cA w [yi F,yi W,yi fl,yi tr,.slice so L sc] 24;replace hW4:Hid _:=hW4
 go_enter func8,ntmps8
 go_upto_region 1 with fail
 rw[hW4.out];clear hW4;have c5:=q1.c 0 rfl
 go_wp2_with fail
 refine(HF.out _ b2).mono ?_;rintro zz w6 ⟨rfl,bb7⟩;have q8:=q1.l bb7;have b9:=aa b2 bb7;clear q1 b2 bb7 HF c5;obtain⟨W12,hW11,q13,al10⟩:=cA w6 (yhL sz f1 f2 f3 f4 f5 f6 gr f8) 51;replace hW11:Hid _:=hW11;have hl14:w.heap.size≤w6.heap.size:=b9.size;have q15:=q8.l al10;have b16:=aa b9 al10;clear q8 b9 al10 q13
 go_upto_region 2 with fail
 rw[hW11.out];clear hW11;have c17:=q15.c 1 rfl
 go_wp2_with fail
 refine(HW.out _).mono ?_;rintro zz w18 ⟨rfl,rfl⟩;clear c17 HW;have c20:=q15.c 2 rfl;have c21:=q15.c 3 rfl
 go_wp2
 go_ret
 exact⟨by simp,b16⟩
theorem state_many (F W fl tr sz f1 f2 f3 f4 f5 f6 f8:Int)(gr:Bool)(so:Option Addr)(L sc:Nat)(w:World)(h1: ¬fl<0)(h2: ¬31<fl)(h3: ¬tr<0)(h4: ¬31<tr)(h5:16< (L:Int))
  (HF:yH w 21 #[yi F] (.tuple #[yhV sz f1 f2 f3 f4 f5 f6 gr f8,.bool true]))
  (HW: ∀w1,yC 22 #[yi W] w1 fun z w'=>z= .returned (.bool true)∧w'=w1):
  yC 8 #[.agg #[yi F,yi W,yi fl,yi tr,.slice so L sc]] w (yR w (yi 2)):=by
 replace HF:Hid _:=HF;replace HW:Hid _:=HW;obtain⟨W3,hW4,q1,b2⟩:=cA w [yi F,yi W,yi fl,yi tr,.slice so L sc] 24;replace hW4:Hid _:=hW4
 go_enter func8,ntmps8
 go_upto_region 1 with fail
 rw[hW4.out];clear hW4;have c5:=q1.c 0 rfl
 go_wp2_with fail
 refine(HF.out _ b2).mono ?_;rintro zz w6 ⟨rfl,bb7⟩;have q8:=q1.l bb7;have b9:=aa b2 bb7;clear q1 b2 bb7 HF c5;obtain⟨W12,hW11,q13,al10⟩:=cA w6 (yhL sz f1 f2 f3 f4 f5 f6 gr f8) 51;replace hW11:Hid _:=hW11;have hl14:w.heap.size≤w6.heap.size:=b9.size;have q15:=q8.l al10;have b16:=aa b9 al10;clear q8 b9 al10 q13
 go_upto_region 2 with fail
 rw[hW11.out];clear hW11;have c17:=q15.c 1 rfl
 go_wp2_with fail
 refine(HW.out _).mono ?_;rintro zz w18 ⟨rfl,rfl⟩;clear c17 HW;have c20:=q15.c 2 rfl;have c21:=q15.c 3 rfl;have c22:=q15.c 4 rfl
 go_wp2
 go_ret
 exact⟨by simp,b16⟩
theorem state_loop (l:List ByteArray)(F W fl tr sz f1 f2 f3 f4 f5 f6 f8:Int)(gr:Bool)(so:Option Addr)(L sc:Nat)(w:World)(h1: ¬fl<0)(h2: ¬31<fl)(h3: ¬tr<0)(h4: ¬31<tr)(h5: ¬16< (L:Int))(hL:l.length=L)(ha:RdS w (.slice so L sc) l)(r:Int)(hR:r=if l.any (offS sz)=true then 1 else 0)
  (HF:yH w 21 #[yi F] (.tuple #[yhV sz f1 f2 f3 f4 f5 f6 gr f8,.bool true]))
  (HW: ∀w1,yC 22 #[yi W] w1 fun z w'=>z= .returned (.bool true)∧w'=w1):
  yC 8 #[.agg #[yi F,yi W,yi fl,yi tr,.slice so L sc]] w (yR w (yi r)):=by
 replace HF:Hid _:=HF;replace HW:Hid _:=HW;replace hR:Hid _:=hR;obtain⟨W3,hW4,q1,b2⟩:=cA w [yi F,yi W,yi fl,yi tr,.slice so L sc] 24;replace hW4:Hid _:=hW4
 go_enter func8,ntmps8
 go_upto_region 1 with fail
 rw[hW4.out];clear hW4;have c5:=q1.c 0 rfl
 go_wp2_with fail
 refine(HF.out _ b2).mono ?_;rintro zz w6 ⟨rfl,bb7⟩;have q8:=q1.l bb7;have b9:=aa b2 bb7;clear q1 b2 bb7 HF c5;obtain⟨W12,hW11,q13,al10⟩:=cA w6 (yhL sz f1 f2 f3 f4 f5 f6 gr f8) 51;replace hW11:Hid _:=hW11;have hl14:w.heap.size≤w6.heap.size:=b9.size;have q15:=q8.l al10;have b16:=aa b9 al10;clear q8 b9 al10
 go_upto_region 2 with fail
 rw[hW11.out];clear hW11;have c17:=q15.c 1 rfl
 go_wp2_with fail
 refine(HW.out _).mono ?_;rintro zz w18 ⟨rfl,rfl⟩;clear c17 HW;have c20:=q15.c 2 rfl;have c21:=q15.c 3 rfl;have c22:=q15.c 4 rfl;have rd:=ha.l b16;have m0:=q15;have m1:=q13;have bel:=b16
 go_wp2
 clear q15 q13 b16;generalize w6.heap.size=p1 at m1⊢;replace hL:Hid _:=hL;have hL16:L≤16:=by omega
 clear ha h1 h2 h3 h4 h5
 go_loopw [5] (fun iv wr=> ∃i:Nat,iv=yi (i:Int)∧i≤L∧Hid (l.any (offS sz)=(l.drop i).any (offS sz))∧yB w wr∧au wr w.heap.size 24 [yi F,yi W,yi fl,yi tr,.slice so L sc]∧au wr p1 51 (yhL sz f1 f2 f3 f4 f5 f6 gr f8)∧RdS wr (.slice so L sc) l) (fun iv _=>L-(intOf iv).toNat)
 case atStart=>exact⟨0,rfl,Nat.zero_le _,rfl,bel,m0,m1,rd⟩
 case round=>
  clear bel m0 m1 rd;obtain⟨i,rfl,hiL,HN,bel,m0,m1,rd⟩:=hrel;have c4:=m0.c 4 rfl
  by_cases hlt:i<L
  ·have hil:i<l.length:=by have:=hL.out;omega
   have hd:l.drop i=l[i]::l.drop (i+1):=List.drop_eq_getElem_cons hil;obtain⟨s,hs⟩: ∃s,l[i]=s:=⟨_,rfl⟩;have HN2:Hid (l.any (offS sz)=(offS sz s||(l.drop (i+1)).any (offS sz))):=by
    have:=HN.out;rw[hd,List.any_cons,hs] at this;exact this
   have hcE: ∃b off,so=some ⟨b,off,none⟩∧wr.cell? ⟨b,off+i,none⟩=some (.string s):=by
    obtain⟨ao,cap,hv,-,-,h3⟩:=rd;obtain⟨b,off,rfl,hc⟩:=h3 (by omega);simp only[Value.slice.injEq] at hv;refine⟨b,off,hv.1, ?_⟩;rw[hc i hil];simp[List.getD_eq_getElem?_getD,hil,hs]
   obtain⟨b,off,rfl,hc⟩:=hcE;have hw2:IntKind.i64.wrap ((i:Int)+1)=(i:Int)+1:=IntWalk.i64_in _ ⟨by omega,by omega⟩;clear hd hs hil HN
   cases hB:((s.size:Int)==sz)
   ·go_upto_region 11 with fail
    have bW:yB wr wr.drew:=(Below.refl _ _).drew;have m2:=m0.l bW;have m3:=m1.l bW;have hc2:=cell_later bW hc;have rd2:=rd.l bW;have bel2:=aa bel bW;clear m0 m1 hc rd bel bW c4;refine wp_region_held_drew (S:=fun wq=>au wq w.heap.size 24 [yi F,yi W,yi fl,yi tr,.slice (some ⟨b,off,none⟩) L sc]∧au wq p1 51 (yhL sz f1 f2 f3 f4 f5 f6 gr f8)∧wq.cell? ⟨b,off+i,none⟩=some (.string s)) (by kernel_rfl) ⟨m2,m3,hc2⟩ (fun hS0=> ?_)
    generalize wr.drew=WD at m2 m3 hc2 rd2 bel2 hS0⊢;refine tq 0 (.pointer (some ⟨w.heap.size,4,none⟩)) rfl (fun _ _=>by kernel_rfl) hS0 ?_
    refine tq 1 (.slice (some ⟨b,off,none⟩) L sc) rfl (fun _ hw0=>gU 22 (.tmp 49) rfl w.heap.size 4 (by kernel_rfl) _ _ underlying22 rfl (hw0.1.c 4 rfl)) hS0 ?_
    refine tq 2 (yi (i:Int)) rfl (fun _ _=>by kernel_rfl) hS0 ?_
    refine tq 3 (.pointer (some ⟨b,off+i,none⟩)) rfl (fun _ _=>by go_simp) hS0 ?_
    refine tq 4 (.string s) rfl (fun _ hw0=>gU 9 (.tmp 52) rfl b (off+i) (by kernel_rfl) _ _ underlying9 rfl hw0.2.2) hS0 ?_
    refine tq 5 (yi (s.size:Int)) rfl (fun _ _=>by go_simp) hS0 ?_
    refine tq 6 (.pointer (some ⟨p1,0,none⟩)) rfl (fun _ _=>by kernel_rfl) hS0 ?_
    refine tq 7 (yi sz) rfl (fun _ hw0=>gU 3 (.tmp 55) rfl p1 0 (by kernel_rfl) _ _ underlying3 rfl (hw0.2.1.c 0 rfl)) hS0 ?_
    refine tq 8 (.bool true) rfl (fun _ _=>by go_simp;simpa using hB) hS0 ?_
    refine wpAnyH_done (by kernel_rfl) ?_ _;clear hS0;simp only[Act.put,List.getElem_toArray,List.getElem_cons_succ,List.getElem_cons_zero,List.setIfInBounds_toArray,List.set_cons_zero,List.set_cons_succ];have hO:offS sz s=true:=by unfold offS;simp at hB;exact decide_eq_true hB
    rw[hO,Bool.true_or] at HN2
    go_wp2
    go_ret
    exact⟨by simp[hR.out,HN2.out],bel2⟩
   ·go_upto_region 11 with fail
    have bW:yB wr wr.drew:=(Below.refl _ _).drew;have m2:=m0.l bW;have m3:=m1.l bW;have hc2:=cell_later bW hc;have rd2:=rd.l bW;have bel2:=aa bel bW;clear m0 m1 hc rd bel bW c4;refine wp_region_held_drew (S:=fun wq=>au wq w.heap.size 24 [yi F,yi W,yi fl,yi tr,.slice (some ⟨b,off,none⟩) L sc]∧au wq p1 51 (yhL sz f1 f2 f3 f4 f5 f6 gr f8)∧wq.cell? ⟨b,off+i,none⟩=some (.string s)) (by kernel_rfl) ⟨m2,m3,hc2⟩ (fun hS0=> ?_)
    generalize wr.drew=WD at m2 m3 hc2 rd2 bel2 hS0⊢;refine tq 0 (.pointer (some ⟨w.heap.size,4,none⟩)) rfl (fun _ _=>by kernel_rfl) hS0 ?_
    refine tq 1 (.slice (some ⟨b,off,none⟩) L sc) rfl (fun _ hw0=>gU 22 (.tmp 49) rfl w.heap.size 4 (by kernel_rfl) _ _ underlying22 rfl (hw0.1.c 4 rfl)) hS0 ?_
    refine tq 2 (yi (i:Int)) rfl (fun _ _=>by kernel_rfl) hS0 ?_
    refine tq 3 (.pointer (some ⟨b,off+i,none⟩)) rfl (fun _ _=>by go_simp) hS0 ?_
    refine tq 4 (.string s) rfl (fun _ hw0=>gU 9 (.tmp 52) rfl b (off+i) (by kernel_rfl) _ _ underlying9 rfl hw0.2.2) hS0 ?_
    refine tq 5 (yi (s.size:Int)) rfl (fun _ _=>by go_simp) hS0 ?_
    refine tq 6 (.pointer (some ⟨p1,0,none⟩)) rfl (fun _ _=>by kernel_rfl) hS0 ?_
    refine tq 7 (yi sz) rfl (fun _ hw0=>gU 3 (.tmp 55) rfl p1 0 (by kernel_rfl) _ _ underlying3 rfl (hw0.2.1.c 0 rfl)) hS0 ?_
    refine tq 8 (.bool false) rfl (fun _ _=>by go_simp;simpa using hB) hS0 ?_
    refine wpAnyH_done (by kernel_rfl) ?_ _;clear hS0;simp only[Act.put,List.getElem_toArray,List.getElem_cons_succ,List.getElem_cons_zero,List.setIfInBounds_toArray,List.set_cons_zero,List.set_cons_succ];have hO:offS sz s=false:=by unfold offS;simp at hB;exact decide_eq_false (fun c=>c hB)
    rw[hO,Bool.false_or] at HN2
    go_wp2
    go_roundw
    case rel=>exact⟨i+1,by go_num,by omega,HN2,bel2,m2,m3,rd2⟩
    case measure=>simp[intOf];omega
  ·have hi:Hid (i=L):=(by omega:i=L)
   go_wp2
   go_ret
   have e:l.any (offS sz)=false:=by rw[HN.out,hi.out,List.drop_eq_nil_of_le (by have:=hL.out;omega)];rfl
   exact⟨by simp[hR.out,e],bel⟩
theorem state_any (F W fl tr:Int)(va:Value)(l:List ByteArray)(w:World)(ha:RdS w va l):
  yC 8 #[.agg #[yi F,yi W,yi fl,yi tr,va]] w (yR w (yi (chkM F W fl tr l))):=by
 obtain⟨so,sc,rfl⟩:=ha.shape;unfold chkM
 by_cases hF:dK F=0
 ·rw[if_pos (.inl hF)]
  exact state_kind F W fl tr 0 0 0 0 0 0 0 0 false so _ sc w (fun w1 _=>oT F w1 hF)
 obtain⟨k1,k2,k3⟩:=fF hF;have HS:=fun w1 (_:yB w w1)=>form_any F.toNat ⟨k1,k2⟩ w1
 rw[k3] at HS;have HW:=fun w1=>qi W w1
 by_cases hW:iC W=false
 ·rw[if_pos (.inr hW)]
  rw[hW] at HW;exact state_way F W fl tr _ _ _ _ _ _ _ _ _ so _ sc w HS HW
 rw[if_neg (fun c=>c.elim hF hW)]
 have hW':iC W=true:=by cases h:iC W<;>simp_all
 rw[hW'] at HW
 by_cases h1:fl<0
 ·rw[if_pos (.inl (decide_eq_true (.inl h1)))]
  exact state_f1 F W fl tr _ _ _ _ _ _ _ _ _ so _ sc w h1 HS HW
 by_cases h2:31<fl
 ·rw[if_pos (.inl (decide_eq_true (.inr h2)))]
  exact state_f2 F W fl tr _ _ _ _ _ _ _ _ _ so _ sc w h1 h2 HS HW
 by_cases h3:tr<0
 ·rw[if_pos (.inr (decide_eq_true (.inl h3)))]
  exact state_f3 F W fl tr _ _ _ _ _ _ _ _ _ so _ sc w h1 h2 h3 HS HW
 by_cases h4:31<tr
 ·rw[if_pos (.inr (decide_eq_true (.inr h4)))]
  exact state_f4 F W fl tr _ _ _ _ _ _ _ _ _ so _ sc w h1 h2 h3 h4 HS HW
 have e1:badF fl=false:=decide_eq_false (by omega);have e2:badF tr=false:=decide_eq_false (by omega);rw[e1,e2,if_neg (by simp)]
 by_cases h5:16<l.length
 ·rw[if_pos h5]
  exact state_many F W fl tr _ _ _ _ _ _ _ _ _ so _ sc w h1 h2 h3 h4 (by omega) HS HW
 rw[if_neg h5];exact state_loop l F W fl tr _ _ _ _ _ _ _ _ _ so _ sc w h1 h2 h3 h4 (by omega) rfl ha _ rfl HS HW
def Kept (q base:Nat)(w w':World):Prop:=Below base w w'∧ ∀b ty vs,b≠q→ty≠9→au w b ty vs→au w' b ty vs
def PushR (q base:Nat)(F W fl tr told:Int)(l:List ByteArray)(w:World)(z:Ending)(w':World):Prop:=
 ∃vo vc,z= .returned (yi 0)∧au w' q 130 [yi F,yi W,yi fl,yi tr,.slice vo l.length vc,yi told]∧OwnS w' base (.slice vo l.length vc) l∧Kept q base w w'
theorem grown_loc {w w3:World}{base:Nat}{v:Value}{l:List ByteArray}(own:OwnS w base v l)(hg:w.grownBy w3 v.ownBlock){b:Nat}{ty:TypeId}{vs:List Value}(hl:au w b ty vs)(hty:ty≠9):au w3 b ty vs:=by
 have hne:some b≠v.ownBlock:=by
  rcases own.2 with⟨h,_⟩| ⟨g,cap,cur,hv,_,hh,_⟩
  ·rw[h]
   simp[Value.ownBlock]
  ·rw[hv]
   show some b≠some g
   intro e
   cases e
   unfold au at hl;rw[hl] at hh;simp only[Option.some.injEq,Obj.cells.injEq] at hh;exact hty hh.2.1
 exact(hg.block b hl.lt hne).trans hl
theorem push_ok (q base:Nat)(F W fl tr f told:Int)(s:ByteArray)(vo:Option Addr)(l:List ByteArray)(vc:Nat)(w:World)
  (hq:au w q 130 [yi F,yi W,yi fl,yi tr,.slice vo l.length vc,yi 0]) (ho:OwnS w base (.slice vo l.length vc) l) (hl:l.length<16) (hb:base≤q) (hs:base≤w.heap.size) (ht:bits .or .i64 0 f=told):
  yC 94 #[.pointer (some ⟨q,0,none⟩),.string s,yi f,yi 0] w (PushR q base F W fl tr told (l++[s]) w):=by
 obtain⟨i0,hi,hz0,hz1,hz2⟩:=info_parts Tryz.infoS;obtain⟨m,hm⟩: ∃m,l.length=m:=⟨_,rfl⟩;have c4:=hq.c 4 rfl;have y4:=hq.f 4;have own:w.ownsRow base 9 1 (.slice vo m vc) m (l.map Value.string):=by have:=ho;unfold OwnS at this;rw[hm] at this;exact this
 have own1:OwnS (w.alloc (.cells #[.string s] 9)) base (.slice vo l.length vc) l:=ho.l (af _ _);have hq1:=hq.l (af w (.cells #[.string s] 9));rw[hm] at c4 hl hq hq1;have hne:((m:Int)==16)=false:=beq_eq_false_iff_ne.2 (by omega);have b1:Below base w (w.alloc (.cells #[.string s] 9)):=(Below.refl _ _).alloc hs _;have HK:Hid (∀b ty vs,au w b ty vs→au (w.alloc (.cells #[.string s] 9)) b ty vs):=fun b ty vs h=>h.l (af _ _)
 clear hq
 go_enter func94,ntmps94
 go_wp2_with (at_builtin;refine wpList_append_own _ rfl _ _ 22 rfl base 9 i0 (.string ⟨#[]⟩) 1 16 underlying22 hi hz0 hz1 hz2 rfl (by decide) _ _ _ rfl (World.ownsRow.alloc own _) ⟨w.heap.size,0,none⟩ 1 1 [.string s] rfl rfl ?c1 ?c2 ?c3 ?c4 ?c5 ?_)
 case c1=>exact cell_one_new _ _ _
 case c2=>intro u hu;simp at hu;subst hu;rfl
 case c3=>unfold maxLen;omega
 case c4=>omega
 case c5=>exact Nat.le_trans hs (af w (.cells #[.string s] 9)).size
 intro v' w3 hown' hgrow _;rw[←hm] at hgrow;have hq3:=grown_loc own1 hgrow hq1 (by decide);have b3:Below base w w3:=b1.grown hgrow (Nat.le_trans hs b1.size) (fun k hk=>(World.ownsRow.lt own1 k hk).1)
 have HK3:Hid (∀b ty vs,ty≠9→au w b ty vs→au w3 b ty vs):=fun b ty vs hty h=>grown_loc own1 hgrow (HK.out b ty vs h) hty
 have own3:OwnS w3 base v' (l++[s]):=by
  unfold OwnS;rw[List.length_append,List.map_append,hm];exact hown'
 obtain⟨vo2,vc2,hv⟩:=own3.rd.shape;obtain⟨n,hn⟩: ∃n,(l++[s]).length=n:=⟨_,rfl⟩;rw[hn] at hv;subst hv;replace hn:Hid _:=hn;clear hown' hgrow own own1 hq1 b1 HK c4 y4 ho;have c4:=hq3.c 4 rfl;have y4:=hq3.f 4;have l4:=hq3.set 4 (.slice vo2 n vc2);have bu4:=ag w3 q 4 (.slice vo2 n vc2);have own4:=own3.off bu4 hq3 (by decide) (Nat.zero_le _);have b4:=bu4.below b3 hb
 go_upto_region 6 with fail
 generalize w3.setCell ⟨q,4,none⟩ (.slice vo2 n vc2)=W4 at l4 bu4 own4 b4⊢;clear c4 y4 hq3 own3 b3;replace l4:au W4 q 130 [yi F,yi W,yi fl,yi tr,.slice vo2 n vc2,yi 0]:=l4;have c5:=l4.c 5 rfl;have y5:=l4.f 5;have l5:=l4.set 5 (yi told);have bu5:=ag W4 q 5 (yi told);have own5:=own4.off bu5 l4 (by decide) (Nat.zero_le _);have b5:=bu5.below b4 hb;have HE:Hid (PushR q base F W fl tr told (l++[s]) w (.returned (yi 0)) (W4.setCell ⟨q,5,none⟩ (yi told))):=
  ⟨vo2,vc2,rfl,by rw[hn.out];exact l5,by rw[hn.out];exact own5,b5,fun b ty vs hbq hty h=>bu5.loc (bu4.loc (HK3.out b ty vs hty h) hbq) hbq⟩
 clear l4 l5 bu4 bu5 own4 own5 b4 b5 HK3
 go_wp2
 go_ret
 exact HE.out
theorem Kept.after {q base:Nat}{w w1 w2:World}(b:yB w w1)(hs:base≤w.heap.size)(k:Kept q base w1 w2):Kept q base w w2:=
 ⟨(b.mono hs).trans k.1,fun _ _ _ hb ht h=>k.2 _ _ _ hb ht (h.l b)⟩
theorem load_ok (q base:Nat)(F W fl tr f d k:Int)(tx st:ByteArray)(vo:Option Addr)(l:List ByteArray)(vc:Nat)(w:World)
  (hq:au w q 130 [yi F,yi W,yi fl,yi tr,.slice vo l.length vc,yi 0]) (ho:OwnS w base (.slice vo l.length vc) l) (hl:l.length<16) (hb:base≤q) (hs:base≤w.heap.size) (ht:bits .or .i64 0 f=f)
  (HP:yH w 14 #[yi F,.string tx,yi W] (.tuple #[.string st,yi f,yi 0])):
  yC 93 #[.pointer (some ⟨q,0,none⟩),.agg #[yi d,yi k,.string tx]] w (PushR q base F W fl tr f (l++[st]) w):=by
 replace HP:Hid _:=HP;have hqw:q<w.heap.size:=hq.lt;obtain⟨W3,hW4,q1,b2⟩:=cA w [yi d,yi k,.string tx] 37;replace hW4:Hid _:=hW4;have hq1:=hq.l b2;have ho1:=ho.l b2
 go_enter func93,ntmps93
 go_upto_region 1 with fail
 rw[hW4.out];clear hW4
 go_upto_region 1 with fail
 have bW:yB W3 W3.drew:=(Below.refl _ _).drew;have q2:=q1.l bW;have hq2:=hq1.l bW;have ho2:=ho1.l bW;have b3:=aa b2 bW;clear q1 hq1 ho1 b2 bW hq ho;refine wp_region_held_drew (S:=fun wq=>(∃x y,au wq q 130 [yi F,yi W,yi fl,yi tr,x,y])∧au wq w.heap.size 37 [yi d,yi k,.string tx]) (by kernel_rfl) ⟨⟨_,_,hq2⟩,q2⟩ (fun hS0=> ?_)
 generalize W3.drew=WD at q2 hq2 ho2 b3 hS0⊢;refine tq 0 (.pointer (some ⟨q,0,none⟩)) rfl (fun _ _=>by kernel_rfl) hS0 ?_
 refine tq 1 (.pointer (some ⟨q,0,none⟩)) rfl (fun _ _=>by kernel_rfl) hS0 ?_
 refine tq 2 (.pointer (some ⟨q,0,none⟩)) rfl (fun _ _=>by kernel_rfl) hS0 ?_
 refine tq 3 (.pointer (some ⟨q,0,none⟩)) rfl (fun _ _=>by kernel_rfl) hS0 ?_
 refine tq 4 (.pointer (some ⟨q,0,none⟩)) rfl (fun _ _=>by kernel_rfl) hS0 ?_
 refine tq 5 (yi F) rfl (fun _ hw0=>by obtain⟨⟨_,_,hz⟩,_⟩:=hw0;exact gU 3 (.tmp 9) rfl q 0 (by kernel_rfl) _ _ underlying3 rfl (hz.c 0 rfl)) hS0 ?_
 refine tq 6 (.pointer (some ⟨w.heap.size,2,none⟩)) rfl (fun _ _=>by kernel_rfl) hS0 ?_
 refine tq 7 (.string tx) rfl (fun _ hw0=>gU 9 (.tmp 11) rfl w.heap.size 2 (by kernel_rfl) _ _ underlying9 rfl (hw0.2.c 2 rfl)) hS0 ?_
 refine tq 8 (.pointer (some ⟨q,0,none⟩)) rfl (fun _ _=>by kernel_rfl) hS0 ?_
 refine tq 9 (.pointer (some ⟨q,0,none⟩)) rfl (fun _ _=>by kernel_rfl) hS0 ?_
 refine tq 10 (.pointer (some ⟨q,0,none⟩)) rfl (fun _ _=>by kernel_rfl) hS0 ?_
 refine tq 11 (.pointer (some ⟨q,1,none⟩)) rfl (fun _ _=>by kernel_rfl) hS0 ?_
 refine tq 12 (yi W) rfl (fun _ hw0=>by obtain⟨⟨_,_,hz⟩,_⟩:=hw0;exact gU 3 (.tmp 16) rfl q 1 (by kernel_rfl) _ _ underlying3 rfl (hz.c 1 rfl)) hS0 ?_
 refine wpAnyH_ready (rs:=[13]) (by kernel_rfl) (by simp) ?_;refine AllReadyH.cons rfl (fun K hK=> ?_) AllReadyH.nil
 go_simp
 refine(HP.out _ b3).mono ?_;rintro zz w9 ⟨rfl,bb⟩;have q3:=q2.l bb;have hq3:=hq2.l bb;have ho3:=ho2.l bb;have b4:=aa b3 bb;clear q2 hq2 ho2 b3 bb HP;refine hK.out _ _ ⟨⟨_,_,hq3⟩,q3⟩ (fun hS1=> ?_)
 clear hK K hS0;refine tq 14 (.string st) rfl (fun _ _=>by kernel_rfl) hS1 ?_
 refine tq 15 (yi f) rfl (fun _ _=>by kernel_rfl) hS1 ?_
 refine tq 16 (yi 0) rfl (fun _ _=>by kernel_rfl) hS1 ?_
 refine wpAnyH_ready (rs:=[17]) (by kernel_rfl) (by simp) ?_;refine AllReadyH.cons rfl (fun K hK=> ?_) AllReadyH.nil
 go_simp
 refine(push_ok q base F W fl tr f f st vo l vc w9 hq3 ho3 hl hb (Nat.le_trans hs b4.size) ht).mono ?_;rintro zz w10 ⟨vo2,vc2,rfl,l5,o5,kp⟩;have HE:Hid (PushR q base F W fl tr f (l++[st]) w (.returned (yi 0)) w10):=⟨vo2,vc2,rfl,l5,o5,Kept.after b4 hs kp⟩;refine hK.out _ _ ⟨⟨_,_,l5⟩,kp.2 _ _ _ (by omega) (by decide) q3⟩ (fun hS2=> ?_)
 clear hK K hS1 l5 o5 kp q3 hq3 ho3;refine tq 18 (yi 0) rfl (fun _ _=>by kernel_rfl) hS2 ?_
 refine wpAnyH_done (by kernel_rfl) ?_ _;clear hS2;simp only[Act.put,List.getElem_toArray,List.getElem_cons_succ,List.getElem_cons_zero,List.setIfInBounds_toArray,List.set_cons_zero,List.set_cons_succ]
 go_wp2
 go_ret
 exact HE.out
theorem upper_W (q:Nat)(F W fl tr told:Int)(g L sc k n:Nat)(w:World)(hq:au w q 130 [yi F,yi W,yi fl,yi tr,.slice (some ⟨g,0,none⟩) L sc,yi told])(hw:IntKind.i64.wrap ((L:Int)-(n:Int))=(k:Int))(hle:(k:Int)≤(L:Int))(hd:L-k=n)(hne: ¬sc=k):
  yC 111 #[.pointer (some ⟨q,0,none⟩),yi n] w (yR w (.slice (some ⟨g,k,none⟩) n (sc-k))):=by
 go_enter func111,ntmps111
 have b0:=Below.refl w.heap.size w
 go_upto_region 1 with fail
 have bW1:yB w w.drew:=(Below.refl _ _).drew;have q2:=hq.l bW1;have b3:=aa b0 bW1;clear hq b0 bW1;refine wp_region_held_drew (S:=fun wq=>au wq q 130 [yi F,yi W,yi fl,yi tr,.slice (some ⟨g,0,none⟩) L sc,yi told]) (by kernel_rfl) q2 (fun hS0=> ?_)
 generalize w.drew=WD4 at q2 b3 hS0⊢;refine tq 0 (.pointer (some ⟨q,0,none⟩)) rfl (fun _ _=>by kernel_rfl) hS0 ?_
 refine tq 1 (.pointer (some ⟨q,0,none⟩)) rfl (fun _ _=>by kernel_rfl) hS0 ?_
 refine tq 2 (.pointer (some ⟨q,0,none⟩)) rfl (fun _ _=>by kernel_rfl) hS0 ?_
 refine tq 3 (.pointer (some ⟨q,4,none⟩)) rfl (fun _ _=>by kernel_rfl) hS0 ?_
 refine tq 4 (.slice (some ⟨g,0,none⟩) L sc) rfl (fun _ hw0=>gU 22 (.tmp 8) rfl q 4 (by kernel_rfl) _ _ underlying22 rfl (hw0.c 4 rfl)) hS0 ?_
 refine tq 5 (.pointer (some ⟨q,0,none⟩)) rfl (fun _ _=>by kernel_rfl) hS0 ?_
 refine tq 6 (.pointer (some ⟨q,0,none⟩)) rfl (fun _ _=>by kernel_rfl) hS0 ?_
 refine tq 7 (.pointer (some ⟨q,0,none⟩)) rfl (fun _ _=>by kernel_rfl) hS0 ?_
 refine tq 8 (.pointer (some ⟨q,4,none⟩)) rfl (fun _ _=>by kernel_rfl) hS0 ?_
 refine tq 9 (.slice (some ⟨g,0,none⟩) L sc) rfl (fun _ hw0=>gU 22 (.tmp 13) rfl q 4 (by kernel_rfl) _ _ underlying22 rfl (hw0.c 4 rfl)) hS0 ?_
 refine tq 10 (yi L) rfl (fun _ _=>by go_simp) hS0 ?_
 refine tq 11 (yi n) rfl (fun _ _=>by kernel_rfl) hS0 ?_
 refine tq 12 (yi k) rfl (fun _ _=>by go_simp) hS0 ?_
 refine tq 13 (.slice (some ⟨g,k,none⟩) n (sc-k)) rfl (fun _ _=>by go_simp) hS0 ?_
 refine tq 14 (.slice (some ⟨g,k,none⟩) n (sc-k)) rfl (fun _ _=>by kernel_rfl) hS0 ?_
 refine wpAnyH_done (by kernel_rfl) ?_ _;clear hS0;simp only[Act.put,List.getElem_toArray,List.getElem_cons_succ,List.getElem_cons_zero,List.setIfInBounds_toArray,List.set_cons_zero,List.set_cons_succ]
 go_wp2
 go_ret
 exact⟨by simp,b3⟩
end Go.Proofs.YtdhpndnncmagiaaGreatDoor

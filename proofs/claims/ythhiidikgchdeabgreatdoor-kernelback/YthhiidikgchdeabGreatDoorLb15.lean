/- Texts laid together. -/
import Derived.Test.YthhiidikgchdeabGreatDoorLb08
import Derived.Test.YthhiidikgchdeabGreatDoorLb09
import Derived.Test.YthhiidikgchdeabGreatDoorLb10
import Derived.Test.YthhiidikgchdeabGreatDoorLb11
set_option maxRecDepth 100000
set_option maxHeartbeats 3200000
namespace Go.Proofs.YthhiidikgchdeabGreatDoor
open _root_.Go.Proofs.Tryz
open Go.RowKit
theorem uG (g n cap base:Nat)(zs:List Nat)(d:Nat)(w:World)(u:Own w base 36 .u32 (.slice (some ⟨g,0,none⟩) n cap) zs)(x:Dg.Small 4294967296 zs)(i:0<d)(G:d<4294967296)(O:zs.length≤1000000000):
  yC 132 #[.slice (some ⟨g,0,none⟩) n cap,.int .u32 d] w fun e w'=>
   ∃qs,e= .returned (.int .u32 ((Dg.vl 4294967296 zs % d:Nat):Int))∧Own w' base 36 .u32 (.slice (some ⟨g,0,none⟩) n cap) qs∧qs.length=zs.length∧Dg.Small 4294967296 qs∧Dg.vl 4294967296 qs=Dg.vl 4294967296 zs/d∧w.grownBy w' (some g):=by
 have I:=u.len;subst I
 go_enter func132,ntmps132
 go_wp2
 go_loopw [5,6] (fun K o wr=> ∃(k r:Nat) (a:List Nat),k≤zs.length∧o=yi ((k:Int)-1)∧K= .int .u32 r∧Own wr base 36 .u32 (.slice (some ⟨g,0,none⟩) zs.length cap) a∧acQ zs a d k r∧w.grownBy wr (some g))
  (fun _ o _=>(intOf o+1).toNat)
 case atStart=>exact⟨zs.length,0,zs,Nat.le_refl _,rfl,rfl,u,⟨rfl,x,i,fun _ _=>rfl,by simp[Dg.vl]⟩,ib _ _⟩
 case round=>
  obtain⟨k,r,a,N,rfl,rfl,own,b,gr⟩:=hrel
  by_cases H:k=0
  ·subst H
   go_wp2
   go_ret
   obtain⟨E,F,s,L,h⟩:=b;simp only[List.drop_zero] at h;have B:Dg.vl 4294967296 zs/d=Dg.vl 4294967296 a:=by
    rw[h,Nat.mul_comm,Nat.mul_add_div i,Nat.div_eq_of_lt s];omega
   have C:Dg.vl 4294967296 zs % d=r:=by
    rw[h,Nat.mul_comm,Nat.mul_add_mod,Nat.mod_eq_of_lt s]
   exact⟨a,by rw[C];rfl,own,E,F,B.symm,gr⟩
  ·obtain⟨m,rfl⟩: ∃m,k=m+1:=⟨k-1,by omega⟩
   have P:=b.1;have y:=own.c m (by omega);have hf:=own.f m;have v:=b.2.2.1;have j:=x m;rw[b.2.2.2.1 m (by omega)] at y;obtain⟨z,ez⟩: ∃z,zs.getD m 0=z:=⟨_,rfl⟩;rw[ez] at y j;have A:Hid _:=ez;clear ez;have J:=I6 (t:=r*4294967296+z) v j rfl
   go_wp2_with fail
   refine(Vb r z d wr v j G).mono ?_;rintro e R ⟨rfl,q⟩;have p:=own.l q;have Q:=p.c m (by omega);have M:=p.f m;have D:=eF gr (Ew (some g) q)
   go_wp2
   go_roundw
   case rel=>exact⟨m,_,_,by omega,by go_num,rfl,p.store m _,Tx b (by omega) (by rw[A.out]) i J,eF D (bI _ _ _ _)⟩
   case measure=>simp[intOf]
theorem kE (m:Value)(xs:List Nat)(w:World)(n:Rd w .u32 m xs)(k:Dg.Small 4294967296 xs)(q:Dg.Norm xs)(u:xs.length≤1000000000):
  yC 74 #[m] w fun e w'=>e= .returned (yi (bitLen (Dg.vl 4294967296 xs):Nat))∧w'=w:=by
 obtain⟨r,s,rfl,-,-,f⟩:=n
 by_cases a:xs.length=0
 ·obtain rfl:xs=[]:=List.eq_nil_of_length_eq_zero a
  go_enter func74,ntmps74
  go_wp2
  go_ret
  exact⟨rfl,rfl⟩
 ·have i:xs≠[]:=by intro e;subst e;simp at a
  obtain⟨b,v,rfl,g⟩:=f (by omega);have p:=g (xs.length-1) (by omega);have j:=k (xs.length-1);rw[IL 4294967296 32 (by decide) (by omega) xs k q i];obtain⟨x,c⟩: ∃x,xs.getD (xs.length-1) 0=x:=⟨_,rfl⟩;rw[c] at p j⊢;have o:=bF x 32 (by omega);have d:=IK x w j;obtain⟨l,h⟩: ∃l,bitLen x=l:=⟨_,rfl⟩;rw[h] at d o⊢;have t:((xs.length:Int)==0)=false:=by simp;intro e;subst e;simp at a
  clear c g f i h
  go_enter func74,ntmps74
  go_wp2_with fail
  refine d.mono ?_;rintro e w' ⟨rfl,rfl⟩
  go_wp2
  go_ret
  exact⟨by go_num,rfl⟩
def bU (t:ak):ak×Int:=
 if 1200< (Dg.dg 4294967296 (bare t).n).length then(⟨false,0,0⟩,2) else if(bare t).e< -20000∨20000< (bare t).e then(⟨false,0,0⟩,3) else(bare t,0)
def gR (w:World)(r:ak×Int)(e:Ending)(w':World):Prop:=
 ∃s,e= .returned (.tuple #[ydV r.1.s s r.1.e,yi r.2])∧Own w' w.heap.size 36 .u32 s (Dg.dg 4294967296 r.1.n)∧yB w w'
theorem aj {P:Program}{d:Func}{a t:Nat}{g:TypeId}{c:Array Value}{w:World}{b:Nat}{v u:Value}(i:d.results= #[.cell a g,.tmp t])(e:c.getD a undef= .pointer (some ⟨b,0,none⟩))(f:c.getD t undef=u)(h:(loadVar g ⟨b,0,none⟩).run P w= .ok v w):(results d c).run P w= .ok (.tuple #[v,u]) w:=by
 rw[Array.getD_eq_getD_getElem?] at e f;unfold results;simp[i,e,f,asAddr,h]
def Bg (zs:List Nat):List Nat:=(List.range zs.length).map fun i=>zs.getD (i+1-2*(i % 2)) 0
def jT (k:Nat)(zs:List Nat):List Nat:=if k=3 then zs.reverse else if 6≤k then Bg zs else zs
def wG (k:Nat)(s:ByteArray):List Nat:=jT k (jr s)
def aZ (k:Nat)(s:ByteArray):Bool:=decide (eH (wG k s) 0 1=1)
def aR (k:Nat)(s:ByteArray):Nat:=eH (wG k s) 1 (exN k)
def aU (k:Nat)(s:ByteArray):Nat:=eH (wG k s) (1+exN k) (frN k)
theorem di.hid {B:Nat}{w:World}{t:ak}{e:Ending}{w':World}(i:B≤w.heap.size)(h:di w t e w'):Xi B w t e w':=by
 obtain⟨s,b,d,f,g⟩:=h;exact⟨s,b,d,g,(fun a n c h=>Nat.le_trans i (f a n c h):Far B s)⟩
theorem aJ (w:World)(a b c d e f:Value)(g:TypeId):mL (w.alloc (.cells #[a,b,c,d,e,f] g)) w.heap.size a b c d e f:=by
 refine⟨by simp[World.size_alloc],⟨?_, ?_, ?_, ?_, ?_, ?_⟩, ?_, ?_, ?_, ?_, ?_, ?_⟩
 all_goals first| (rw[World.cell?_alloc_at _ _ _ _ rfl];rfl)|simp
theorem bP {w:World}{b:Nat}{g i j l m n:Value}(h:mL w b g i j l m n)(a c d e f o:Value):
  mL ((((((w.setCell ⟨b,0,none⟩ a).setCell ⟨b,1,none⟩ c).setCell ⟨b,2,none⟩ d).setCell ⟨b,3,none⟩ e).setCell ⟨b,4,none⟩ f).setCell ⟨b,5,none⟩ o) b a c d e f o:=by
 obtain⟨C,⟨p,q,r,s,t,u⟩,v,x,y,z,A,B⟩:=h;refine⟨by simpa using C,⟨?_, ?_, ?_, ?_, ?_, ?_⟩,by simpa using v,by simpa using x,by simpa using y,by simpa using z,by simpa using A,by simpa using B⟩
 ·have k:w.cell? ⟨b,0,none⟩=some g:=by exact p
  rw[World.cell?_setCell_other (h:=by simp),World.cell?_setCell_other (h:=by simp),World.cell?_setCell_other (h:=by simp),World.cell?_setCell_other (h:=by simp),World.cell?_setCell_other (h:=by simp)];exact World.cell?_setCell_same _ _ _ k
 ·have k:(w.setCell ⟨b,0,none⟩ a).cell? ⟨b,1,none⟩=some i:=by rw[World.cell?_setCell_other (h:=by simp)];exact q
  rw[World.cell?_setCell_other (h:=by simp),World.cell?_setCell_other (h:=by simp),World.cell?_setCell_other (h:=by simp),World.cell?_setCell_other (h:=by simp)];exact World.cell?_setCell_same _ _ _ k
 ·have k:((w.setCell ⟨b,0,none⟩ a).setCell ⟨b,1,none⟩ c).cell? ⟨b,2,none⟩=some j:=by rw[World.cell?_setCell_other (h:=by simp),World.cell?_setCell_other (h:=by simp)];exact r
  rw[World.cell?_setCell_other (h:=by simp),World.cell?_setCell_other (h:=by simp),World.cell?_setCell_other (h:=by simp)];exact World.cell?_setCell_same _ _ _ k
 ·have k:(((w.setCell ⟨b,0,none⟩ a).setCell ⟨b,1,none⟩ c).setCell ⟨b,2,none⟩ d).cell? ⟨b,3,none⟩=some l:=by rw[World.cell?_setCell_other (h:=by simp),World.cell?_setCell_other (h:=by simp),World.cell?_setCell_other (h:=by simp)];exact s
  rw[World.cell?_setCell_other (h:=by simp),World.cell?_setCell_other (h:=by simp)];exact World.cell?_setCell_same _ _ _ k
 ·have k:((((w.setCell ⟨b,0,none⟩ a).setCell ⟨b,1,none⟩ c).setCell ⟨b,2,none⟩ d).setCell ⟨b,3,none⟩ e).cell? ⟨b,4,none⟩=some m:=by rw[World.cell?_setCell_other (h:=by simp),World.cell?_setCell_other (h:=by simp),World.cell?_setCell_other (h:=by simp),World.cell?_setCell_other (h:=by simp)];exact t
  rw[World.cell?_setCell_other (h:=by simp)];exact World.cell?_setCell_same _ _ _ k
 ·have k:(((((w.setCell ⟨b,0,none⟩ a).setCell ⟨b,1,none⟩ c).setCell ⟨b,2,none⟩ d).setCell ⟨b,3,none⟩ e).setCell ⟨b,4,none⟩ f).cell? ⟨b,5,none⟩=some n:=by rw[World.cell?_setCell_other (h:=by simp),World.cell?_setCell_other (h:=by simp),World.cell?_setCell_other (h:=by simp),World.cell?_setCell_other (h:=by simp),World.cell?_setCell_other (h:=by simp)];exact u
  exact World.cell?_setCell_same _ _ _ k
theorem pM (w:World)(a:TypeId):ZB6 (w.alloc (.cells #[.bool false,yN,yi 0,.bool false,yN,yi 0] a)) w.heap.size:=
 ⟨by simp[World.size_alloc],a,heap_alloc_new _ _⟩
theorem ZB6.rd {w:World}{b:Nat}{v:Value}{zs:List Nat}(h:ZB6 w b)(t:Rd w .i64 v zs)(r:Dg.Norm zs)(u x y z A B:Value):
  Rd ((((((w.setCell ⟨b,0,none⟩ u).setCell ⟨b,1,none⟩ x).setCell ⟨b,2,none⟩ y).setCell ⟨b,3,none⟩ z).setCell ⟨b,4,none⟩ A).setCell ⟨b,5,none⟩ B) .i64 v zs:=by
 obtain⟨C,F,p⟩:=h;obtain⟨k,cap,rfl,l,m,n⟩:=t;refine⟨k,cap,rfl,l,m,fun g=> ?_⟩
 obtain⟨c,j,rfl,f⟩:=n g;refine⟨c,j,rfl,fun i q=> ?_⟩
 have D:c≠b:=by
  intro e;subst e;have a:=f (zs.length-1) (by omega);have E:=r (List.length_pos_iff.1 g);unfold World.cell? at a;simp only[p] at a;obtain⟨o,s⟩: ∃o,j+(zs.length-1)=o:=⟨_,rfl⟩;rw[s] at a;generalize zs.getD (zs.length-1) 0=d at*
  match o,a with
  |0,a=>simp at a
  |1,a=>simp at a
  |2,a=>simp at a;omega
  |3,a=>simp at a
  |4,a=>simp at a
  |5,a=>simp at a;omega
  |o+6,a=>simp at a
 rw[World.cell?_setCell_other (h:=by simp),World.cell?_setCell_other (h:=by simp),World.cell?_setCell_other (h:=by simp),World.cell?_setCell_other (h:=by simp),World.cell?_setCell_other (h:=by simp),World.cell?_setCell_other (h:=by simp)];exact f i q
theorem ZB6.rd32 {w:World}{b:Nat}{v:Value}{zs:List Nat}(h:ZB6 w b)(r:Rd w .u32 v zs)(s t u x y z:Value):
  Rd ((((((w.setCell ⟨b,0,none⟩ s).setCell ⟨b,1,none⟩ t).setCell ⟨b,2,none⟩ u).setCell ⟨b,3,none⟩ x).setCell ⟨b,4,none⟩ y).setCell ⟨b,5,none⟩ z) .u32 v zs:=by
 obtain⟨A,C,m⟩:=h;obtain⟨g,cap,rfl,j,k,l⟩:=r;refine⟨g,cap,rfl,j,k,fun q=> ?_⟩
 obtain⟨c,f,rfl,d⟩:=l q;refine⟨c,f,rfl,fun i n=> ?_⟩
 have B:c≠b:=by
  intro e;subst e;have a:=d (zs.length-1) (by omega);unfold World.cell? at a;simp only[m] at a;obtain⟨o,p⟩: ∃o,f+(zs.length-1)=o:=⟨_,rfl⟩;rw[p] at a
  match o,a with
  |0,a=>simp at a
  |1,a=>simp at a
  |2,a=>simp at a
  |3,a=>simp at a
  |4,a=>simp at a
  |5,a=>simp at a
  |o+6,a=>simp at a
 rw[World.cell?_setCell_other (h:=by simp),World.cell?_setCell_other (h:=by simp),World.cell?_setCell_other (h:=by simp),World.cell?_setCell_other (h:=by simp),World.cell?_setCell_other (h:=by simp),World.cell?_setCell_other (h:=by simp)];exact d i n
theorem mL.apart3 {w:World}{b c:Nat}{a d e f g i:Value}(h:mL w b a d e f g i)(A:c≠b)(q r s:Value):
  mL (((w.setCell ⟨c,0,none⟩ q).setCell ⟨c,1,none⟩ r).setCell ⟨c,2,none⟩ s) b a d e f g i:=by
 obtain⟨p,⟨t,u,v,x,y,z⟩,j,k,l,m,n,o⟩:=h;refine⟨by simpa using p,⟨?_, ?_, ?_, ?_, ?_, ?_⟩,by simpa using j,by simpa using k,by simpa using l,by simpa using m,by simpa using n,by simpa using o⟩
 all_goals (rw[World.cell?_setCell_other (h:=by simp),World.cell?_setCell_other (h:=by simp),World.cell?_setCell_other (h:=by simp)];assumption)
theorem mL.apart3h {w:World}{b c:Nat}{a d e f g i:Value}(h:mL w b a d e f g i)(A:c≠b)(q r s:Value):
  mL (((w.setCell ⟨c,3,none⟩ q).setCell ⟨c,4,none⟩ r).setCell ⟨c,5,none⟩ s) b a d e f g i:=by
 obtain⟨p,⟨t,u,v,x,y,z⟩,j,k,l,m,n,o⟩:=h;refine⟨by simpa using p,⟨?_, ?_, ?_, ?_, ?_, ?_⟩,by simpa using j,by simpa using k,by simpa using l,by simpa using m,by simpa using n,by simpa using o⟩
 all_goals (rw[World.cell?_setCell_other (h:=by simp),World.cell?_setCell_other (h:=by simp),World.cell?_setCell_other (h:=by simp)];assumption)
theorem Loc.apart3h {w:World}{b c:Nat}{a d e:Value}(h:Loc w b a d e)(_hne:c≠b)(k l m:Value):
  Loc (((w.setCell ⟨c,3,none⟩ k).setCell ⟨c,4,none⟩ l).setCell ⟨c,5,none⟩ m) b a d e:=by
 obtain⟨j,⟨n,o,p⟩,f,g,i⟩:=h;refine⟨by simpa using j,⟨?_, ?_, ?_⟩,by simpa using f,by simpa using g,by simpa using i⟩
 all_goals (rw[World.cell?_setCell_other (h:=by simp),World.cell?_setCell_other (h:=by simp),World.cell?_setCell_other (h:=by simp)];assumption)
theorem abg {w:World}{b:Nat}{v d e f g i:Value}(h:mL w b v d e f g i)(a c j:Value):
  mL (((w.setCell ⟨b,0,none⟩ a).setCell ⟨b,1,none⟩ c).setCell ⟨b,2,none⟩ j) b a c j f g i:=by
 obtain⟨u,⟨l,m,n,x,y,z⟩,o,p,q,r,s,t⟩:=h;refine⟨by simpa using u,⟨?_, ?_, ?_, ?_, ?_, ?_⟩,by simpa using o,by simpa using p,by simpa using q,by simpa using r,by simpa using s,by simpa using t⟩
 ·rw[World.cell?_setCell_other (h:=by simp),World.cell?_setCell_other (h:=by simp)]
  exact World.cell?_setCell_same _ _ _ l
 ·have k:(w.setCell ⟨b,0,none⟩ a).cell? ⟨b,1,none⟩=some d:=by rw[World.cell?_setCell_other (h:=by simp)];exact m
  rw[World.cell?_setCell_other (h:=by simp)];exact World.cell?_setCell_same _ _ _ k
 ·have k:((w.setCell ⟨b,0,none⟩ a).setCell ⟨b,1,none⟩ c).cell? ⟨b,2,none⟩=some e:=by rw[World.cell?_setCell_other (h:=by simp),World.cell?_setCell_other (h:=by simp)];exact n
  exact World.cell?_setCell_same _ _ _ k
 all_goals (rw[World.cell?_setCell_other (h:=by simp),World.cell?_setCell_other (h:=by simp),World.cell?_setCell_other (h:=by simp)];assumption)
theorem Sy {w:World}{b:Nat}{d e f z g i:Value}(h:mL w b d e f z g i)(a c j:Value):
  mL (((w.setCell ⟨b,3,none⟩ a).setCell ⟨b,4,none⟩ c).setCell ⟨b,5,none⟩ j) b d e f a c j:=by
 obtain⟨y,⟨l,m,n,o,p,q⟩,r,s,t,u,v,x⟩:=h;refine⟨by simpa using y,⟨?_, ?_, ?_, ?_, ?_, ?_⟩,by simpa using r,by simpa using s,by simpa using t,by simpa using u,by simpa using v,by simpa using x⟩
 ·rw[World.cell?_setCell_other (h:=by simp),World.cell?_setCell_other (h:=by simp),World.cell?_setCell_other (h:=by simp)];exact l
 ·rw[World.cell?_setCell_other (h:=by simp),World.cell?_setCell_other (h:=by simp),World.cell?_setCell_other (h:=by simp)];exact m
 ·rw[World.cell?_setCell_other (h:=by simp),World.cell?_setCell_other (h:=by simp),World.cell?_setCell_other (h:=by simp)];exact n
 ·rw[World.cell?_setCell_other (h:=by simp),World.cell?_setCell_other (h:=by simp)]
  exact World.cell?_setCell_same _ _ _ o
 ·have k:(w.setCell ⟨b,3,none⟩ a).cell? ⟨b,4,none⟩=some g:=by rw[World.cell?_setCell_other (h:=by simp)];exact p
  rw[World.cell?_setCell_other (h:=by simp)];exact World.cell?_setCell_same _ _ _ k
 ·have k:((w.setCell ⟨b,3,none⟩ a).setCell ⟨b,4,none⟩ c).cell? ⟨b,5,none⟩=some i:=by rw[World.cell?_setCell_other (h:=by simp),World.cell?_setCell_other (h:=by simp)];exact q
  exact World.cell?_setCell_same _ _ _ k
def Yu (wr:World)(p:Nat)(x:Nat→ak)(ao:Nat→Option Addr)(ca:Nat→Nat)(l h:Nat):Prop:=
 mL wr p (.bool (x l).s) (.slice (ao l) (Dg.dg 4294967296 (x l).n).length (ca l)) (yi (x l).e) (.bool (x h).s) (.slice (ao h) (Dg.dg 4294967296 (x h).n).length (ca h)) (yi (x h).e)
def Sz (w:World)(m:Nat)(x:Nat→ak)(ao:Nat→Option Addr)(ca:Nat→Nat)(p:Nat)(iv:Value)(wr:World):Prop:=
 ∃i:Nat,i+1≤m∧iv=yi i∧yB w wr∧Yu wr p x ao ca (loI x i) (hiI x i)∧
  mL wr w.heap.size (.bool false) yN (yi 0) (.bool false) yN (yi 0)
theorem jN.vres {w:World}{t:ak}{e:Ending}{w':World}(h:jN w t e w'):Lx w t e w':=by
 obtain⟨s,a,b,c⟩:=h;exact⟨s,a,b.rd,c⟩
def NRd (w:World)(t:ak)(er:Int)(z:Ending)(w':World):Prop:=
 ∃p,z= .returned (.tuple #[ydV t.s p t.e,yi er])∧Rd w' .u32 p (Dg.dg 4294967296 t.n)∧yB w w'
def BT (W:World)(base:Nat)(v:Value):Prop:= ∃p,v= .pointer (some ⟨p,0,none⟩)∧base≤p∧mL W p (.bool false) yN (yi 0) (.bool false) yN (yi 0)∧ZB6 W p
theorem H7 (g N i pc base t:Nat)(R a:List Nat)(O:Value)(w:World)(K:Own w base 36 .u32 (.slice (some ⟨g,0,none⟩) N N) R)(B:Dg.Small 4294967296 R)(sb:Dg.Small 4294967296 a)
  (z: ∀w',w.grownBy w' (some g)→Rd w' .u32 O a) (W:i+a.length<R.length) (X:t<4294967296) (a1:R.length≤2000000000):
  yC 137 #[.slice (some ⟨g,i,none⟩) (a.length+1) pc,O,.int .u32 t] w fun e w'=>
   ∃(b:Nat) (m:List Nat),e= .returned (.bool (decide (b=1)))∧acc R m a i t b∧Own w' base 36 .u32 (.slice (some ⟨g,0,none⟩) N N) m∧w.grownBy w' (some g):=by
 obtain⟨bo,cb,rfl⟩:=(z w (ib _ _)).shape;have P:Hid _:=z
 clear z
 go_enter func137,ntmps137
 go_wp2
 go_loopw [7,8,14] (fun S Q A wr=> ∃(k c b:Nat) (m:List Nat),k≤a.length∧A=yi k∧S= .int .u64 c∧Q= .int .u32 b∧Own wr base 36 .u32 (.slice (some ⟨g,0,none⟩) N N) m∧SX R m a i t k c b∧w.grownBy wr (some g)) (fun _ _ A _=>a.length-(intOf A).toNat)
 case atStart=>exact⟨0,0,0,R,Nat.zero_le _,rfl,rfl,rfl,K,⟨rfl,B,by omega,by omega,fun _ _=>rfl,by simp[Dg.vl]⟩,ib _ _⟩
 case round=>
  clear K;obtain⟨k,c,b,m,hk,rfl,rfl,rfl,own,o,gr⟩:=hrel;have H:=o.1;have T:=o.2.2.1;have D:=o.2.2.2.1
  by_cases J:k<a.length
  ·obtain⟨-,-,F⟩:=iQ (P.out wr gr)
   obtain⟨b2,a5,rfl,G⟩:=F (by omega);have Y:=G k J;have L:=sb k;have v:=own.c (i+k) (by omega);have hf:=own.f (i+k);rw[o.2.2.2.2.1 _ (Nat.le_refl _)] at v;have q:=B (i+k);obtain⟨y,x⟩: ∃y,a.getD k 0=y:=⟨_,rfl⟩;obtain⟨p,n⟩: ∃p,R.getD (i+k) 0=p:=⟨_,rfl⟩;rw[x] at Y L;rw[n] at v q;have a2:=uf L X;have a4:(y:Int)*(t:Int)≤18446744065119617025:=by rw[←Int.natCast_mul];omega
   have a3:0≤(y:Int)*(t:Int):=by rw[←Int.natCast_mul];omega
   have d:=VS o J (by omega) x n q rfl (by omega);have I:(c+y*t) % 4294967296<4294967296:=Nat.mod_lt _ (by omega);have j:=zA p ((c+y*t) % 4294967296) b wr q I D;rw[←Sd] at j;have s:Hid _:=d;obtain⟨l,u⟩: ∃l,(p+4294967296-(c+y*t) % 4294967296-b) % 4294967296=l:=⟨_,rfl⟩;obtain⟨h,r⟩: ∃h,brw p ((c+y*t) % 4294967296) b=h:=⟨_,rfl⟩;rw[u,r] at j s;clear x n G F d I H u r
   go_wp2_with fail
   refine j.mono ?_;rintro e w' ⟨rfl,rfl⟩;clear j
   go_wp2
   go_roundw
   case rel=>
    rw[Se];exact⟨k+1,_,h,_,by omega,by go_num,rfl,rfl,own.store (i+k) _,s.out,eF gr (bI _ _ _ _)⟩
   case measure=>simp[intOf];omega
  ·have U:k=a.length:=by omega
   subst U;have v:=own.c (i+a.length) (by omega);have hf:=own.f (i+a.length);rw[o.2.2.2.2.1 _ (Nat.le_refl _)] at v;have q:=B (i+a.length);obtain⟨p,n⟩: ∃p,R.getD (i+a.length) 0=p:=⟨_,rfl⟩;rw[n] at v q;have d:=VT o W n q;have j:=zA p c b wr q T D;have E:=RN p c b;obtain⟨l,u⟩: ∃l,(p+4294967296-c-b) % 4294967296=l:=⟨_,rfl⟩;obtain⟨h,r⟩: ∃h,brw p c b=h:=⟨_,rfl⟩;rw[u,r] at j d;rw[r] at E;have s:Hid (acc R (m.set (i+a.length) l) a i t h):=⟨d.1,d.2.1,d.2.2.1,E,d.2.2.2⟩;have M:=own.store (i+a.length) l;have C:=eF gr (bI wr g (i+a.length) (.int .u32 (l:Int)));clear n d H u r
   go_wp2_with fail
   refine j.mono ?_;rintro e w' ⟨rfl,rfl⟩;clear j
   by_cases Z:h=0
   ·subst Z
    go_wp2
    go_ret
    exact⟨0,_,rfl,s,M,C⟩
   ·have a0:h=1:=by omega
    subst a0
    go_wp2
    go_ret
    exact⟨1,_,rfl,s,M,C⟩
theorem Mj (g N i O base:Nat)(R a:List Nat)(E:Value)(w:World)(C:Own w base 36 .u32 (.slice (some ⟨g,0,none⟩) N N) R)(t:Dg.Small 4294967296 R)(P:Dg.Small 4294967296 a)
  (q: ∀w',w.grownBy w' (some g)→Rd w' .u32 E a) (K:i+a.length<R.length) (U:R.length≤2000000000):
  yC 138 #[.slice (some ⟨g,i,none⟩) (a.length+1) O,E] w fun e w'=>
   ∃(o:Nat) (d:List Nat),e= .returned (.tuple #[])∧Py R d a i o∧Own w' base 36 .u32 (.slice (some ⟨g,0,none⟩) N N) d∧w.grownBy w' (some g):=by
 obtain⟨S,T,rfl⟩:=(q w (ib _ _)).shape;have F:Hid _:=q
 clear q
 go_enter func138,ntmps138
 go_wp2
 go_loopw [4,9] (fun H s wr=> ∃(k c:Nat) (d:List Nat),k≤a.length∧s=yi k∧H= .int .u32 c∧Own wr base 36 .u32 (.slice (some ⟨g,0,none⟩) N N) d∧Sp R d a i k c∧w.grownBy wr (some g)) (fun _ s _=>a.length-(intOf s).toNat)
 case atStart=>exact⟨0,0,R,Nat.zero_le _,rfl,rfl,C,⟨rfl,t,by omega,fun _ _=>rfl,by simp[Dg.vl]⟩,ib _ _⟩
 case round=>
  clear C;obtain⟨k,c,d,W,rfl,rfl,own,h,gr⟩:=hrel;have B:=h.1;have I:=h.2.2.1
  by_cases L:k<a.length
  ·obtain⟨-,-,z⟩:=iQ (F.out wr gr)
   obtain⟨Q,X,rfl,A⟩:=z (by omega);have M:=A k L;have r:=P k;have l:=own.c (i+k) (by omega);have hf:=own.f (i+k);rw[h.2.2.2.1 _ (Nat.le_refl _)] at l;have j:=t (i+k);obtain⟨y,n⟩: ∃y,a.getD k 0=y:=⟨_,rfl⟩;obtain⟨p,b⟩: ∃p,R.getD (i+k) 0=p:=⟨_,rfl⟩;rw[n] at M r;rw[b] at l j;have m:=TV h (by omega) n b j r;have x:=ur p y c wr j r I;clear n b A z B
   go_wp2_with fail
   refine x.mono ?_;rintro e w' ⟨rfl,rfl⟩;clear x
   go_wp2
   go_roundw
   case rel=>exact⟨k+1,_,_,by omega,by go_num,rfl,own.store (i+k) _,m,eF gr (bI _ _ _ _)⟩
   case measure=>simp[intOf];omega
  ·have J:k=a.length:=by omega
   subst J;have l:=own.c (i+a.length) (by omega);have hf:=own.f (i+a.length);rw[h.2.2.2.1 _ (Nat.le_refl _)] at l;have j:=t (i+a.length);obtain⟨p,b⟩: ∃p,R.getD (i+a.length) 0=p:=⟨_,rfl⟩;rw[b] at l j;have m:=TW h K b j;have u:((p:Int)+(c:Int)) % 4294967296=(((p+c) % 4294967296:Nat):Int):=by omega
   have D:=own.store (i+a.length) ((p+c) % 4294967296);have v:=eF gr (bI wr g (i+a.length) (.int .u32 (((p+c) % 4294967296:Nat):Int)));rw[←u] at D v;have G:Hid _:=m;clear b m B u
   go_wp2
   go_end0
   exact⟨_,_,rfl,G,D,v⟩
theorem CxN.at_real (w:Rat)(n:Nat):at' ⟨w,0⟩ n=⟨aw w n,0⟩:=by
 unfold at' aw;rw[←sm_real];refine sm_congr fun j _=> ?_
 rw[pw_real];apply ext'<;>simp only[sc,awt]<;>grind
theorem CxN.lnA_real (n:Nat):lnZ n=⟨la n,0⟩:=by
 unfold lnZ la;rw[at_real,at_real,at_real];have b:((9:Nat):Rat)=9:=rfl;have a:((4:Nat):Rat)=4:=rfl;rw[b,a];apply ext'<;>simp only[add,sc]<;>grind
theorem CxN.has_la:Has (fun n=>⟨la n,0⟩) ⟨2,0⟩:=by
 have e:lnZ=fun n=>⟨la n,0⟩:=by funext n;rw[lnA_real]
 rw[←e];exact has_lnA
theorem er_tm (u:Rat)(n:Nat):er u n=rs (tmS u cExp) n:=by
 unfold er;exact rs_congr fun j _=>tm_exp u j
theorem XF (p:Value)(xs:List Nat)(w:World)(s:Rd w .u32 p xs)(o:Dg.Small 4294967296 xs)(G:xs.length≤2):
  yC 82 #[p] w fun z w'=>z= .returned (.int .u64 ((Dg.vl 4294967296 xs:Nat):Int))∧w'=w:=by
 obtain⟨y,A,rfl,-,-,l⟩:=s
 go_enter func82,ntmps82
 go_wp2
 go_loop [3,4] (fun v g=> ∃j x:Nat,j≤xs.length∧g=yi ((j:Int)-1)∧v= .int .u64 (x:Int)∧Hid (x=Dg.vl 4294967296 (xs.drop j))) (fun _ g=>(intOf g+1).toNat)
 case atStart=>exact⟨xs.length,0,Nat.le_refl _,by go_num,rfl,by rw[List.drop_of_length_le (Nat.le_refl _)];rfl⟩
 case round=>
  obtain⟨j,x,F,rfl,rfl,d⟩:=hrel
  by_cases B:0<j
  ·obtain⟨i,rfl⟩: ∃i,j=i+1:=⟨j-1,by omega⟩
   rw[show((i+1:Nat):Int)-1=(i:Int) from by omega]
   obtain⟨b,H,rfl,m⟩:=l (by omega);have t:=m i (by omega);have n:=o i;have f:=d.out;have u:x<4294967296:=by
    have e:=Dg.vl_lt 4294967296 (xs.drop (i+1)) (fun k=>by
     rw[List.getD_eq_getElem?_getD,List.getElem?_drop,←List.getD_eq_getElem?_getD];exact o _)
    rw[←f,List.length_drop] at e;have C:(4294967296:Nat)^ (xs.length-(i+1))≤4294967296^1:=Nat.pow_le_pow_right (by omega) (by omega);omega
   have c:Dg.vl 4294967296 (xs.drop i)=xs.getD i 0+4294967296*x:=by
    rw[f,List.drop_eq_getElem_cons (show i<xs.length by omega),Dg.vl]
    simp[List.getD_eq_getElem?_getD,show i<xs.length by omega]
   obtain⟨a,h⟩: ∃a,xs.getD i 0=a:=⟨_,rfl⟩;rw[h] at t n c;have E:i<xs.length:=by omega
   have r:Hid _:=c;clear h c f m l d
   go_wp2
   have c:=r.out;refine⟨⟨i,a+4294967296*x,by omega,rfl, ?_,c.symm⟩, ?_⟩
   ·rw[TZ x a u n]
   ·simp only[intOf]
    omega
  ·have D: ¬((0:Int)≤(j:Int)-1):=by omega
   have q:Hid (j=0):=(by omega:j=0)
   go_wp2
   go_ret
   have e:=q.out;subst e;have:=d.out;rw[List.drop_zero] at this;rw[←this];exact⟨rfl,rfl⟩
def PwStep (w:World)(I:Nat→ak×ak→ak×ak→Prop)(fn:FuncId)(a b x y lo hi:ak)(f B nb:Int)(k:Nat)(s r h v:ak):Prop:=
 k≤100000∧ ∃(i j:Int) (m n p q:ak),(∀w1,yC fn #[yi ((k+1:Nat):Int)] w1 ((yR w1 (.tuple #[yi i,yi j]))))∧(∀ho hc vo vc ao ac bo bc w1,yB w w1→Rd w1 .u32 (yT ho h.n hc) (Dg.dg 4294967296 h.n)→Rd w1 .u32 (yT vo v.n vc) (Dg.dg 4294967296 v.n)→Rd w1 .u32 (yT ao a.n ac) (Dg.dg 4294967296 a.n)→Rd w1 .u32 (yT bo b.n bc) (Dg.dg 4294967296 b.n)→yC 86 #[.agg #[.bool h.s,yT ho h.n hc,yi h.e,.bool v.s,yT vo v.n vc,yi v.e],.agg #[.bool a.s,yT ao a.n ac,yi a.e,.bool b.s,yT bo b.n bc,yi b.e]] w1 (aeT w1 m n))∧(∀mo mc no nc w1,yB w w1→Rd w1 .u32 (yT mo m.n mc) (Dg.dg 4294967296 m.n)→Rd w1 .u32 (yT no n.n nc) (Dg.dg 4294967296 n.n)→yC 113 #[.agg #[.bool m.s,yT mo m.n mc,yi m.e,.bool n.s,yT no n.n nc,yi n.e],yi i,yi j,yi B] w1 (aeT w1 p q))∧
  ((∃(g:Int) (bl:Bool) (c z e u:ak),(bl=true→g<nb)∧(∀po pc qo qc w1,yB w w1→Rd w1 .u32 (yT po p.n pc) (Dg.dg 4294967296 p.n)→Rd w1 .u32 (yT qo q.n qc) (Dg.dg 4294967296 q.n)→yC 114 #[.agg #[.bool p.s,yT po p.n pc,yi p.e,.bool q.s,yT qo q.n qc,yi q.e]] w1 ((yR w1 (.tuple #[yi g,.bool bl]))))∧(∀po pc qo qc xo xc yo yc w1,yB w w1→Rd w1 .u32 (yT po p.n pc) (Dg.dg 4294967296 p.n)→Rd w1 .u32 (yT qo q.n qc) (Dg.dg 4294967296 q.n)→Rd w1 .u32 (yT xo x.n xc) (Dg.dg 4294967296 x.n)→Rd w1 .u32 (yT yo y.n yc) (Dg.dg 4294967296 y.n)→yC 86 #[.agg #[.bool p.s,yT po p.n pc,yi p.e,.bool q.s,yT qo q.n qc,yi q.e],.agg #[.bool x.s,yT xo x.n xc,yi f,.bool y.s,yT yo y.n yc,yi y.e]] w1 (aeT w1 c z))∧(∀so sc ro rc co cc zo zc w1,yB w w1→Rd w1 .u32 (yT so s.n sc) (Dg.dg 4294967296 s.n)→Rd w1 .u32 (yT ro r.n rc) (Dg.dg 4294967296 r.n)→Rd w1 .u32 (yT co c.n cc) (Dg.dg 4294967296 c.n)→Rd w1 .u32 (yT zo z.n zc) (Dg.dg 4294967296 z.n)→yC 87 #[.agg #[.bool s.s,yT so s.n sc,yi s.e,.bool r.s,yT ro r.n rc,yi r.e],.agg #[.bool c.s,yT co c.n cc,yi c.e,.bool z.s,yT zo z.n zc,yi z.e]] w1 (aeT w1 e u))∧(∀eo ec uo uc w1,yB w w1→Rd w1 .u32 (yT eo e.n ec) (Dg.dg 4294967296 e.n)→Rd w1 .u32 (yT uo u.n uc) (Dg.dg 4294967296 u.n)→yC 55 #[.agg #[.bool e.s,yT eo e.n ec,yi e.e,.bool u.s,yT uo u.n uc,yi u.e],yi B] w1 (aeT w1 lo hi)))∨
   (∃(g:Int) (c z e u:ak),¬g<nb∧(∀po pc qo qc w1,yB w w1→Rd w1 .u32 (yT po p.n pc) (Dg.dg 4294967296 p.n)→Rd w1 .u32 (yT qo q.n qc) (Dg.dg 4294967296 q.n)→yC 114 #[.agg #[.bool p.s,yT po p.n pc,yi p.e,.bool q.s,yT qo q.n qc,yi q.e]] w1 ((yR w1 (.tuple #[yi g,.bool true]))))∧(∀so sc ro rc po pc qo qc w1,yB w w1→Rd w1 .u32 (yT so s.n sc) (Dg.dg 4294967296 s.n)→Rd w1 .u32 (yT ro r.n rc) (Dg.dg 4294967296 r.n)→Rd w1 .u32 (yT po p.n pc) (Dg.dg 4294967296 p.n)→Rd w1 .u32 (yT qo q.n qc) (Dg.dg 4294967296 q.n)→yC 87 #[.agg #[.bool s.s,yT so s.n sc,yi s.e,.bool r.s,yT ro r.n rc,yi r.e],.agg #[.bool p.s,yT po p.n pc,yi p.e,.bool q.s,yT qo q.n qc,yi q.e]] w1 (aeT w1 c z))∧(∀co cc zo zc w1,yB w w1→Rd w1 .u32 (yT co c.n cc) (Dg.dg 4294967296 c.n)→Rd w1 .u32 (yT zo z.n zc) (Dg.dg 4294967296 z.n)→yC 55 #[.agg #[.bool c.s,yT co c.n cc,yi c.e,.bool z.s,yT zo z.n zc,yi z.e],yi B] w1 (aeT w1 e u))∧I (k+1) (e,u) (p,q)))
def ji (k:Nat)(ng:Bool)(E FF:Nat):ak:=
 if k=3 then(if E+1=2^exN k∨0<E∧FF<2^ (dgN k-1) then⟨false,0,0⟩ else bare ⟨ng,FF,wdI (rdN k)*(lsI k+(((E-1:Nat):Nat):Int))⟩)
 else if k≤2 then(if E+1=2^exN k then⟨false,0,0⟩ else bare ⟨ng,FF+(if 0<E then 2^ (dgN k-1) else 0),wdI (rdN k)*(lsI k+(((E-1:Nat):Nat):Int))⟩)
 else if k≤5 then bare ⟨ng,FF,wdI (rdN k)*(lsI k+(E:Int))⟩
 else(if E=0 then⟨false,0,0⟩ else bare ⟨ng,FF+2^ (dgN k-1),wdI (rdN k)*(lsI k+(E:Int)-1)⟩)
def nxT (k:Nat)(s:ByteArray):ak:=ji k (aZ k s) (aR k s) (aU k s)
end Go.Proofs.YthhiidikgchdeabGreatDoor
